/- Texts of the proof, merged: N2 N3 N4a. -/
import Derived.Test.YtdmipnnfoolelafGreatKTA
import Derived.Test.YtdmipnnfoolelafGreatKTE
import Derived.Test.YtdmipnnfoolelafGreatKTK
import Derived.Test.YtdmipnnfoolelafGreatKTJ
set_option maxHeartbeats 400000
set_option maxRecDepth 100000

namespace Go.Proofs.YtdmipnnfoolelafGreat
open Go.RowKit Go.Mk

theorem zkC (m:Mc) (c u a p box plan cl:Value) (w:World) (A:Nat->Prop) (h:RdM A w m c u a p box plan cl) (hf:0<=m.falls) :
  zaK Tryz.prog 39 #[.agg (zaH m c u a p box plan cl).toArray] w A (fun r w'=>zgz zc1 (zd5 m).1 (zd5 m).2 r w'):=by
 unfold zaK;obtain ⟨ca,cc,ua,uc,aa,ac,pa,pc,xa,xc,la,lc,ka,kc,rfl,rfl,rfl,rfl,rfl,rfl,rfl⟩:=h.slices;obtain ⟨⟨sc,su,sa,sp⟩,⟨gen,bl,busy,⟨nc,nt,⟨nk,na,no,nn⟩⟩,pl,⟨se,sn⟩⟩,up,pause,falls,cls⟩:=m;simp only [zaH] at *;have H:=zhd h;clear h;have EW:=zhd (Ext.refl w);obtain ⟨B,hB⟩:=zdF A w.heap.size 2;have HK:=zhd hB;clear hB;replace H:=zhd (H.o.widen HK.o.1);cases up
 case false =>
  have hX:zd5 ⟨⟨sc,su,sa,sp⟩,⟨gen,bl,busy,⟨nc,nt,⟨nk,na,no,nn⟩⟩,pl,⟨se,sn⟩⟩,false,pause,falls,cls⟩=(⟨⟨sc,su,sa,sp⟩,⟨gen,bl,busy,⟨nc,nt,⟨nk,na,no,nn⟩⟩,pl,⟨se,sn⟩⟩,false,pause,falls,cls⟩,11):=rfl;rw [hX];clear hX;go_enter Tryz.func39,Tryz.ntmps39
  go_wp2_with (with_reducible refine zT ?_)
  refine zaj rfl 44 (.tmp 0) rfl #[.slice ca sc.length cc,.slice ua su.length uc,.slice aa sa.length ac,.slice pa sp.length pc,I gen,.slice xa bl.length xc,.bool busy,I nc,I nt,I nk,I na,I no,I nn,.slice la pl.length lc,I se,I sn,.bool false,I pause,I falls,.slice ka cls.length kc] rfl (fun b0 w1_ M1=>?_);have zab:=zmb M1;go_wp2_with (with_reducible refine zT ?_)
  refine zae rfl 44 zM (by kernel_rfl) (fun b1 w2_ M2=>?_);have zad:=zmb M2;have za0:=zA0 M1;have za2:=zA1 za0 M1 M2;have zat:=znb HK za2 (by decide);have zaZ:=zob za2;replace zab:=zmo M2 zab;have c16:=zaa (i:=16) zab.o rfl;have c18:=zaa (i:=18) zab.o rfl;go_wp2_with (with_reducible refine zT ?_)
  clear c16 c18;refine zah rfl 44 (.tmp 1) rfl b0 rfl zab zaS zaG (fun v7 H_v7=>?_);go_wp2_with (with_reducible refine zT ?_)
  refine zac rfl 44 (.tmp 2) (.tmp 7) rfl b1 rfl _ (zcv H_v7) zad rfl zaG rfl (fun w3_ M3=>?_);replace zad:=zwb M3;go_wp2
  have z0:=zaq (P:=Tryz.prog) 44 zad.o zaS (by kernel_rfl);refine bodyPost_ret (by simp [results,Tryz.results39,asAddr,z0]; rfl) rfl ?_;replace H:=zHw M3 (zhd ((zhd (H.o.ext M1.o.ext)).o.ext M2.o.ext)) zat;replace EW:=zwe M3 (zet (zet EW M1) M2) zaZ;exact ⟨_,rfl,EW.o,Rd.widen (A:=B) (zbT (RdM.mc (m:=⟨⟨sc,su,sa,sp⟩,⟨gen,bl,busy,⟨nc,nt,⟨nk,na,no,nn⟩⟩,pl,⟨se,sn⟩⟩,false,pause,falls,cls⟩) H.o)) (fun k _ h=>HK.o.2.2.2 k h)⟩
 by_cases h6:6<=falls
 case pos =>
  have hX:zd5 ⟨⟨sc,su,sa,sp⟩,⟨gen,bl,busy,⟨nc,nt,⟨nk,na,no,nn⟩⟩,pl,⟨se,sn⟩⟩,true,pause,falls,cls⟩=(⟨⟨sc,su,sa,sp⟩,⟨gen,bl,busy,⟨nc,nt,⟨nk,na,no,nn⟩⟩,pl,⟨se,sn⟩⟩,true,pause,falls,cls⟩,5):=by
   show (if ¬ (true=true) then _ else if 6<=falls then _ else _)=_
   rw [if_neg (by simp),if_pos h6]
  rw [hX];have h5:(5:Int) < falls:=by omega
  clear hX h6;go_enter Tryz.func39,Tryz.ntmps39
  go_wp2_with (with_reducible refine zT ?_)
  refine zaj rfl 44 (.tmp 0) rfl #[.slice ca sc.length cc,.slice ua su.length uc,.slice aa sa.length ac,.slice pa sp.length pc,I gen,.slice xa bl.length xc,.bool busy,I nc,I nt,I nk,I na,I no,I nn,.slice la pl.length lc,I se,I sn,.bool true,I pause,I falls,.slice ka cls.length kc] rfl (fun b0 w1_ M1=>?_);have zab:=zmb M1;go_wp2_with (with_reducible refine zT ?_)
  refine zae rfl 44 zM (by kernel_rfl) (fun b1 w2_ M2=>?_);have zad:=zmb M2;have za0:=zA0 M1;have za2:=zA1 za0 M1 M2;have zat:=znb HK za2 (by decide);have zaZ:=zob za2;replace zab:=zmo M2 zab;have c16:=zaa (i:=16) zab.o rfl;have c18:=zaa (i:=18) zab.o rfl;go_wp2_with (with_reducible refine zT ?_)
  clear c16 c18;refine zah rfl 44 (.tmp 1) rfl b0 rfl zab zaS zaG (fun v11 H_v11=>?_);go_wp2_with (with_reducible refine zT ?_)
  refine zac rfl 44 (.tmp 2) (.tmp 11) rfl b1 rfl _ (zcv H_v11) zad rfl zaG rfl (fun w3_ M3=>?_);replace zad:=zwb M3;go_wp2
  have z0:=zaq (P:=Tryz.prog) 44 zad.o zaS (by kernel_rfl);refine bodyPost_ret (by simp [results,Tryz.results39,asAddr,z0]; rfl) rfl ?_;replace H:=zHw M3 (zhd ((zhd (H.o.ext M1.o.ext)).o.ext M2.o.ext)) zat;replace EW:=zwe M3 (zet (zet EW M1) M2) zaZ;exact ⟨_,rfl,EW.o,Rd.widen (A:=B) (zbT (RdM.mc (m:=⟨⟨sc,su,sa,sp⟩,⟨gen,bl,busy,⟨nc,nt,⟨nk,na,no,nn⟩⟩,pl,⟨se,sn⟩⟩,true,pause,falls,cls⟩) H.o)) (fun k _ h=>HK.o.2.2.2 k h)⟩
 obtain ⟨f,rfl⟩:∃ f:Nat,falls=(f:Int):=⟨falls.toNat,by omega⟩;obtain ⟨pv,hpv⟩:∃ x,pauseOf ((f:Int)+1)=x:=⟨_,rfl⟩
 have htab:(#[I 1,I 1,I 2,I 3,I 3,I 3,I 3]:Array Value)[f+1]?=some (I pv):=by
  subst hpv;have hc:f=0∨f=1∨f=2∨f=3∨f=4∨f=5:=by omega
  rcases hc with rfl | rfl | rfl | rfl | rfl | rfl <;> rfl
 have HTAB:=zhd htab
 have hX:zd5 ⟨⟨sc,su,sa,sp⟩,⟨gen,bl,busy,⟨nc,nt,⟨nk,na,no,nn⟩⟩,pl,⟨se,sn⟩⟩,true,pause,(f:Int),cls⟩=(⟨⟨sc,su,sa,sp⟩,zbM gen [],false,pv,((f:Int)+1),cls⟩,0):=by
  show (if ¬ (true=true) then _ else if 6<=(f:Int) then _ else _)=_
  rw [if_neg (by simp),if_neg h6,hpv]
 rw [hX];have h5:(f:Int) < 6:=by omega
 have hf0:(0:Int)<=(f:Int):=hf;clear hX htab hpv h6 hf;go_enter Tryz.func39,Tryz.ntmps39
 go_wp2_with (with_reducible refine zT ?_)
 refine zaj rfl 44 (.tmp 0) rfl #[.slice ca sc.length cc,.slice ua su.length uc,.slice aa sa.length ac,.slice pa sp.length pc,I gen,.slice xa bl.length xc,.bool busy,I nc,I nt,I nk,I na,I no,I nn,.slice la pl.length lc,I se,I sn,.bool true,I pause,I (f:Int),.slice ka cls.length kc] rfl (fun b0 w1_ M1=>?_);have zab:=zmb M1;go_wp2_with (with_reducible refine zT ?_)
 refine zae rfl 44 zM (by kernel_rfl) (fun b1 w2_ M2=>?_);have zaw:=zld zab M2;have zad:=zmb M2;have za0:=zA0 M1;have zaF:=znb HK za0 (by decide);have zbm:=zob za0;have za2:=zA1 za0 M1 M2;have zat:=znb HK za2 (by decide);have zaZ:=zob za2;replace zab:=zmo M2 zab;have c16:=zaa (i:=16) zab.o rfl;have c18:=zaa (i:=18) zab.o rfl;go_wp2_with (with_reducible refine zT ?_)
 clear c16 c18;refine zal rfl 3 (.tmp 15) (.tmp 14) rfl b0 18 rfl [I ((f:Int)+1)] (rfl) zab rfl zi3 rfl [.slice ca sc.length cc,.slice ua su.length uc,.slice aa sa.length ac,.slice pa sp.length pc,I gen,.slice xa bl.length xc,.bool busy,I nc,I nt,I nk,I na,I no,I nn,.slice la pl.length lc,I se,I sn,.bool true,I pause,I ((f:Int)+1),.slice ka cls.length kc] rfl (fun w3_ M3=>?_);replace zab:=zwb M3;go_wp2_with (with_reducible refine zT ?_)
 refine zal rfl 4 (.tmp 16) (.const (.bool false)) rfl b0 16 rfl [.bool false] (rfl) zab rfl zi4 rfl [.slice ca sc.length cc,.slice ua su.length uc,.slice aa sa.length ac,.slice pa sp.length pc,I gen,.slice xa bl.length xc,.bool busy,I nc,I nt,I nk,I na,I no,I nn,.slice la pl.length lc,I se,I sn,.bool false,I pause,I ((f:Int)+1),.slice ka cls.length kc] rfl (fun w4_ M4=>?_);replace zab:=zwb M4;go_wp2_with (with_reducible refine zT ?_)
 unfold Hid;refine zcw rfl 3 7 #[I 1,I 1,I 2,I 3,I 3,I 3,I 3] (by kernel_rfl) (fun b2 w5_ M5=>?_);replace zad:=zwg M4 (zwg M3 zad zaw) zaw;have zak:=zmb M5;have c2:=zaa (i:=f+1) zak.o HTAB.o;have hi1:(f:Int)+1 < 7:=by omega
 have hi0:(0:Int)<=(f:Int)+1:=by omega
 replace zab:=zmo M5 zab;have c18:=zaa (i:=18) zab.o rfl;go_wp2_with (with_reducible refine zT ?_)
 clear c18 c2 hi1 hi0;refine zal rfl 3 (.tmp 22) (.tmp 21) rfl b0 17 rfl [I pv] (rfl) zab rfl zi3 rfl [.slice ca sc.length cc,.slice ua su.length uc,.slice aa sa.length ac,.slice pa sp.length pc,I gen,.slice xa bl.length xc,.bool busy,I nc,I nt,I nk,I na,I no,I nn,.slice la pl.length lc,I se,I sn,.bool false,I pv,I ((f:Int)+1),.slice ka cls.length kc] rfl (fun w6_ M6=>?_);replace zab:=zwb M6;have c4:=zaa (i:=4) zab.o rfl;go_wp2_with (with_reducible refine zT ?_)
 clear c4;refine zaX rfl 41 #[(0,.tmp 25)] rfl #[I gen,.slice none 0 0,.bool false,I 0,I 0,I 0,I 0,I 0,I 0,.slice none 0 0,I 0,I 0] (by kernel_rfl) (fun v26 H_v26=>?_);go_wp2_with (with_reducible refine zT ?_)
 refine zal rfl 41 (.tmp 27) (.tmp 26) rfl b0 4 rfl _ (zcv H_v26) zab rfl zdg rfl [.slice ca sc.length cc,.slice ua su.length uc,.slice aa sa.length ac,.slice pa sp.length pc,I gen,.slice none 0 0,.bool false,I 0,I 0,I 0,I 0,I 0,I 0,.slice none 0 0,I 0,I 0,.bool false,I pv,I ((f:Int)+1),.slice ka cls.length kc] rfl (fun w7_ M7=>?_);replace zab:=zwb M7;go_wp2_with (with_reducible refine zT ?_)
 refine zah rfl 44 (.tmp 1) rfl b0 rfl zab zaS zaG (fun v28 H_v28=>?_);go_wp2_with (with_reducible refine zT ?_)
 replace zad:=zwg M7 (zwg M6 (zmo M5 zad) zaw) zaw;refine zac rfl 44 (.tmp 2) (.tmp 28) rfl b1 rfl _ (zcv H_v28) zad rfl zaG rfl (fun w8_ M8=>?_);replace zad:=zwb M8;go_wp2
 have z0:=zaq (P:=Tryz.prog) 44 zad.o zaS (by kernel_rfl);refine bodyPost_ret (by simp [results,Tryz.results39,asAddr,z0]; rfl) rfl ?_;replace H:=zHw M8 (zHw M7 (zHw M6 (zhd ((zHw M4 (zHw M3 (zhd ((zhd (H.o.ext M1.o.ext)).o.ext M2.o.ext)) zaF) zaF).o.ext M5.o.ext)) zaF) zaF) zat;replace EW:=zwe M8 (zwe M7 (zwe M6 (zet (zwe M4 (zwe M3 (zet (zet EW M1) M2) zbm) zbm) M5) zbm) zbm) zaZ;exact ⟨_,rfl,EW.o,Rd.widen (A:=B) (zbT (RdM.mc (m:=⟨⟨sc,su,sa,sp⟩,zbM gen [],false,pv,((f:Int)+1),cls⟩) ⟨H.o.cells,H.o.undo,H.o.answers,H.o.past,Rd.all fun w=>zas.nil w,Rd.all fun w=>zbu w,H.o.clients⟩)) (fun k _ h=>HK.o.2.2.2 k h)⟩

theorem zhw (m:Mc) (c u a p box plan cl:Value) (w:World) (A:Nat->Prop) (h:RdM A w m c u a p box plan cl) (hr:m.store.cells.length * 8<=140737488355328) (hg:0<=m.server.gen/\m.server.gen<=1000000) (hpz:0<=m.pause/\m.pause<=1000000) :
  zaK Tryz.prog 29 #[.agg (zaH m c u a p box plan cl).toArray] w A (fun r w'=>Agg zc1 (za6 m) r w'):=by
 unfold zaK;obtain ⟨ca,cc,ua,uc,aa,ac,pa,pc,xa,xc,la,lc,ka,kc,rfl,rfl,rfl,rfl,rfl,rfl,rfl⟩:=h.slices;obtain ⟨⟨sc,su,sa,sp⟩,⟨gen,bl,busy,⟨nc,nt,⟨nk,na,no,nn⟩⟩,pl,⟨se,sn⟩⟩,up,pause,falls,cls⟩:=m;simp only [zaH] at *;have H:=zhd h;clear h;have EW:=zhd (Ext.refl w);obtain ⟨B,hB⟩:=zdF A w.heap.size 2;have HK:=zhd hB;clear hB;replace H:=zhd (H.o.widen HK.o.1);cases up
 case true =>
  have hX:za6 ⟨⟨sc,su,sa,sp⟩,⟨gen,bl,busy,⟨nc,nt,⟨nk,na,no,nn⟩⟩,pl,⟨se,sn⟩⟩,true,pause,falls,cls⟩=⟨⟨sc,su,sa,sp⟩,⟨gen,bl,busy,⟨nc,nt,⟨nk,na,no,nn⟩⟩,pl,⟨se,sn⟩⟩,true,pause,falls,cls⟩:=rfl;rw [hX];clear hX;go_enter Tryz.func29,Tryz.ntmps29
  go_wp2_with (with_reducible refine zT ?_)
  refine zaj rfl 44 (.tmp 0) rfl #[.slice ca sc.length cc,.slice ua su.length uc,.slice aa sa.length ac,.slice pa sp.length pc,I gen,.slice xa bl.length xc,.bool busy,I nc,I nt,I nk,I na,I no,I nn,.slice la pl.length lc,I se,I sn,.bool true,I pause,I falls,.slice ka cls.length kc] rfl (fun b0 w1_ M1=>?_);have zab:=zmb M1;go_wp2_with (with_reducible refine zT ?_)
  refine zae rfl 44 zM (by kernel_rfl) (fun b1 w2_ M2=>?_);have zad:=zmb M2;have za0:=zA0 M1;have za2:=zA1 za0 M1 M2;have zat:=znb HK za2 (by decide);have zaZ:=zob za2;replace zab:=zmo M2 zab;have c16:=zaa (i:=16) zab.o rfl;go_wp2_with (with_reducible refine zT ?_)
  clear c16;refine zah rfl 44 (.tmp 1) rfl b0 rfl zab zaS zaG (fun v26 H_v26=>?_);go_wp2_with (with_reducible refine zT ?_)
  refine zac rfl 44 (.tmp 2) (.tmp 26) rfl b1 rfl _ (zcv H_v26) zad rfl zaG rfl (fun w3_ M3=>?_);replace zad:=zwb M3;go_wp2
  have z0:=zaq (P:=Tryz.prog) 44 zad.o zaS (by kernel_rfl);refine bodyPost_ret (by simp [results,Tryz.results29,asAddr,z0,Act.put]; rfl) rfl ?_;replace H:=zHw M3 (zhd ((zhd (H.o.ext M1.o.ext)).o.ext M2.o.ext)) zat;replace EW:=zwe M3 (zet (zet EW M1) M2) zaZ;exact ⟨_,rfl,EW.o,Rd.widen (A:=B) (zca (RdM.mc (m:=⟨⟨sc,su,sa,sp⟩,⟨gen,bl,busy,⟨nc,nt,⟨nk,na,no,nn⟩⟩,pl,⟨se,sn⟩⟩,true,pause,falls,cls⟩) H.o)) (fun k _ h=>HK.o.2.2.2 k h)⟩
 by_cases hp:1 < pause
 case pos =>
  have hX:za6 ⟨⟨sc,su,sa,sp⟩,⟨gen,bl,busy,⟨nc,nt,⟨nk,na,no,nn⟩⟩,pl,⟨se,sn⟩⟩,false,pause,falls,cls⟩=⟨⟨sc,su,sa,sp⟩,⟨gen,bl,busy,⟨nc,nt,⟨nk,na,no,nn⟩⟩,pl,⟨se,sn⟩⟩,false,(pause - 1),falls,cls⟩:=by
   show (if (false=true) then _ else if 1 < pause then _ else _)=_
   rw [if_neg (by simp),if_pos hp]
  rw [hX];clear hX;go_enter Tryz.func29,Tryz.ntmps29
  go_wp2_with (with_reducible refine zT ?_)
  refine zaj rfl 44 (.tmp 0) rfl #[.slice ca sc.length cc,.slice ua su.length uc,.slice aa sa.length ac,.slice pa sp.length pc,I gen,.slice xa bl.length xc,.bool busy,I nc,I nt,I nk,I na,I no,I nn,.slice la pl.length lc,I se,I sn,.bool false,I pause,I falls,.slice ka cls.length kc] rfl (fun b0 w1_ M1=>?_);have zab:=zmb M1;go_wp2_with (with_reducible refine zT ?_)
  refine zae rfl 44 zM (by kernel_rfl) (fun b1 w2_ M2=>?_);have zaw:=zld zab M2;have zad:=zmb M2;have za0:=zA0 M1;have zaF:=znb HK za0 (by decide);have zbm:=zob za0;have za2:=zA1 za0 M1 M2;have zat:=znb HK za2 (by decide);have zaZ:=zob za2;replace zab:=zmo M2 zab;have c16:=zaa (i:=16) zab.o rfl;have c17:=zaa (i:=17) zab.o rfl;go_wp2_with (with_reducible refine zT ?_)
  clear c16 c17;refine zal rfl 3 (.tmp 25) (.tmp 24) rfl b0 17 rfl [I (pause - 1)] (rfl) zab rfl zi3 rfl [.slice ca sc.length cc,.slice ua su.length uc,.slice aa sa.length ac,.slice pa sp.length pc,I gen,.slice xa bl.length xc,.bool busy,I nc,I nt,I nk,I na,I no,I nn,.slice la pl.length lc,I se,I sn,.bool false,I (pause - 1),I falls,.slice ka cls.length kc] rfl (fun w3_ M3=>?_);replace zab:=zwb M3;go_wp2_with (with_reducible refine zT ?_)
  refine zah rfl 44 (.tmp 1) rfl b0 rfl zab zaS zaG (fun v26 H_v26=>?_);go_wp2_with (with_reducible refine zT ?_)
  replace zad:=zwg M3 zad zaw;refine zac rfl 44 (.tmp 2) (.tmp 26) rfl b1 rfl _ (zcv H_v26) zad rfl zaG rfl (fun w4_ M4=>?_);replace zad:=zwb M4;go_wp2
  have z0:=zaq (P:=Tryz.prog) 44 zad.o zaS (by kernel_rfl);refine bodyPost_ret (by simp [results,Tryz.results29,asAddr,z0,Act.put]; rfl) rfl ?_;replace H:=zHw M4 (zHw M3 (zhd ((zhd (H.o.ext M1.o.ext)).o.ext M2.o.ext)) zaF) zat;replace EW:=zwe M4 (zwe M3 (zet (zet EW M1) M2) zbm) zaZ;exact ⟨_,rfl,EW.o,Rd.widen (A:=B) (zca (RdM.mc (m:=⟨⟨sc,su,sa,sp⟩,⟨gen,bl,busy,⟨nc,nt,⟨nk,na,no,nn⟩⟩,pl,⟨se,sn⟩⟩,false,(pause - 1),falls,cls⟩) ⟨H.o.cells,H.o.undo,H.o.answers,H.o.past,H.o.box,H.o.plan,H.o.clients⟩)) (fun k _ h=>HK.o.2.2.2 k h)⟩
 have hX:za6 ⟨⟨sc,su,sa,sp⟩,⟨gen,bl,busy,⟨nc,nt,⟨nk,na,no,nn⟩⟩,pl,⟨se,sn⟩⟩,false,pause,falls,cls⟩=⟨zbF ⟨sc,su,sa,sp⟩,zbM (gen+1) [],true,0,falls,cls⟩:=by
  show (if (false=true) then _ else if 1 < pause then _ else _)=_
  rw [if_neg (by simp),if_neg hp]
 rw [hX];clear hX;go_enter Tryz.func29,Tryz.ntmps29
 go_wp2_with (with_reducible refine zT ?_)
 refine zaj rfl 44 (.tmp 0) rfl #[.slice ca sc.length cc,.slice ua su.length uc,.slice aa sa.length ac,.slice pa sp.length pc,I gen,.slice xa bl.length xc,.bool busy,I nc,I nt,I nk,I na,I no,I nn,.slice la pl.length lc,I se,I sn,.bool false,I pause,I falls,.slice ka cls.length kc] rfl (fun b0 w1_ M1=>?_);have zab:=zmb M1;go_wp2_with (with_reducible refine zT ?_)
 refine zae rfl 44 zM (by kernel_rfl) (fun b1 w2_ M2=>?_);have zaw:=zld zab M2;have zad:=zmb M2;have za0:=zA0 M1;have zaF:=znb HK za0 (by decide);have zbm:=zob za0;have za2:=zA1 za0 M1 M2;have zat:=znb HK za2 (by decide);have zaZ:=zob za2;replace zab:=zmo M2 zab;have c16:=zaa (i:=16) zab.o rfl;have c17:=zaa (i:=17) zab.o rfl;go_wp2_with (with_reducible refine zT ?_)
 clear c16 c17;refine zal rfl 4 (.tmp 3) (.const (.bool true)) rfl b0 16 rfl [.bool true] (rfl) zab rfl zi4 rfl [.slice ca sc.length cc,.slice ua su.length uc,.slice aa sa.length ac,.slice pa sp.length pc,I gen,.slice xa bl.length xc,.bool busy,I nc,I nt,I nk,I na,I no,I nn,.slice la pl.length lc,I se,I sn,.bool true,I pause,I falls,.slice ka cls.length kc] rfl (fun w3_ M3=>?_);replace zab:=zwb M3;go_wp2_with (with_reducible refine zT ?_)
 refine zal rfl 3 (.tmp 4) (.const (.int .i64 0)) rfl b0 17 rfl [I 0] (rfl) zab rfl zi3 rfl [.slice ca sc.length cc,.slice ua su.length uc,.slice aa sa.length ac,.slice pa sp.length pc,I gen,.slice xa bl.length xc,.bool busy,I nc,I nt,I nk,I na,I no,I nn,.slice la pl.length lc,I se,I sn,.bool true,I 0,I falls,.slice ka cls.length kc] rfl (fun w4_ M4=>?_);replace zab:=zwb M4;go_wp2_with (with_reducible refine zT ?_)
 refine zcp rfl 31 (.tmp 5) rfl b0 0 rfl zab [.slice ca sc.length cc,.slice ua su.length uc,.slice aa sa.length ac,.slice pa sp.length pc] rfl zcX zgh (fun v6 H_v6=>?_);go_wp2_with fail
 rw [show _=Value.agg #[.slice ca sc.length cc,.slice ua su.length uc,.slice aa sa.length ac,.slice pa sp.length pc] from H_v6.o];replace H:=zHw M4 (zHw M3 (zhd ((zhd (H.o.ext M1.o.ext)).o.ext M2.o.ext)) zaF) zaF;refine (zkK _ _ _ _ ⟨sc,su,sa,sp⟩ w4_ B (zdJ H.o.cells H.o.undo H.o.answers H.o.past) hr).to fun r wb eb hr1=>?_;obtain ⟨cs,rfl,hcs⟩:=zbS hr1;obtain ⟨c',u',a',p',rfl,r1,r2,r3,r4⟩:=zez hcs;obtain ⟨ca',cc',rfl⟩:=zao r1.o;obtain ⟨ua',uc',rfl⟩:=zao r2.o;obtain ⟨aa',ac',rfl⟩:=zag r3.o;obtain ⟨pa',pc',rfl⟩:=zag r4.o;replace zad:=zwg M4 (zwg M3 zad zaw) zaw;have hsz:w.heap.size+2<=w4_.heap.size:=by have q:=(zlt zad); have q2:=za2.o; omega
 have hin:∀ k,k < wb.heap.size->(B k∨w4_.heap.size<=k)->B k:=fun k _ h=>by
  rcases h with h | h
  ·exact h
  ·exact HK.o.2.1 k (by omega)
 have R1:=zhd (r1.widen hin);have R2:=zhd (r2.widen hin);have R3:=zhd (r3.widen hin);have R4:=zhd (r4.widen hin);clear hr1 hcs r1 r2 r3 r4 hin hsz;go_wp2_with (with_reducible refine zT ?_)
 replace zab:=zbx zab eb;refine zal rfl 31 (.tmp 8) (.tmp 7) rfl b0 0 rfl [.slice ca' (zbF ⟨sc,su,sa,sp⟩).cells.length cc',.slice ua' (zbF ⟨sc,su,sa,sp⟩).undo.length uc',.slice aa' (zbF ⟨sc,su,sa,sp⟩).answers.length ac',.slice pa' (zbF ⟨sc,su,sa,sp⟩).past.length pc'] (rfl) zab rfl zgh rfl [.slice ca' (zbF ⟨sc,su,sa,sp⟩).cells.length cc',.slice ua' (zbF ⟨sc,su,sa,sp⟩).undo.length uc',.slice aa' (zbF ⟨sc,su,sa,sp⟩).answers.length ac',.slice pa' (zbF ⟨sc,su,sa,sp⟩).past.length pc',I gen,.slice xa bl.length xc,.bool busy,I nc,I nt,I nk,I na,I no,I nn,.slice la pl.length lc,I se,I sn,.bool true,I 0,I falls,.slice ka cls.length kc] rfl (fun w5_ M5=>?_);replace zab:=zwb M5;have c4:=zaa (i:=4) zab.o rfl;go_wp2_with (with_reducible refine zT ?_)
 clear c4;refine zaX rfl 41 #[(0,.tmp 12)] rfl #[I (gen+1),.slice none 0 0,.bool false,I 0,I 0,I 0,I 0,I 0,I 0,.slice none 0 0,I 0,I 0] (by kernel_rfl) (fun v13 H_v13=>?_);go_wp2_with (with_reducible refine zT ?_)
 refine zal rfl 41 (.tmp 14) (.tmp 13) rfl b0 4 rfl _ (zcv H_v13) zab rfl zdg rfl [.slice ca' (zbF ⟨sc,su,sa,sp⟩).cells.length cc',.slice ua' (zbF ⟨sc,su,sa,sp⟩).undo.length uc',.slice aa' (zbF ⟨sc,su,sa,sp⟩).answers.length ac',.slice pa' (zbF ⟨sc,su,sa,sp⟩).past.length pc',I (gen+1),.slice none 0 0,.bool false,I 0,I 0,I 0,I 0,I 0,I 0,.slice none 0 0,I 0,I 0,.bool true,I 0,I falls,.slice ka cls.length kc] rfl (fun w6_ M6=>?_);replace zab:=zwb M6;go_wp2_with (with_reducible refine zT ?_)
 refine zah rfl 44 (.tmp 1) rfl b0 rfl zab zaS zaG (fun v26 H_v26=>?_);go_wp2_with (with_reducible refine zT ?_)
 replace zad:=zwg M6 (zwg M5 (zbx zad eb) zaw) zaw;refine zac rfl 44 (.tmp 2) (.tmp 26) rfl b1 rfl _ (zcv H_v26) zad rfl zaG rfl (fun w7_ M7=>?_);replace zad:=zwb M7;go_wp2
 have z0:=zaq (P:=Tryz.prog) 44 zad.o zaS (by kernel_rfl);refine bodyPost_ret (by simp [results,Tryz.results29,asAddr,z0,Act.put]; rfl) rfl ?_;replace EW:=zwe M7 (zwe M6 (zwe M5 (zhd ((zwe M4 (zwe M3 (zet (zet EW M1) M2) zbm) zbm).o.trans eb)) zbm) zbm) zaZ;replace H:=zHw M7 (zHw M6 (zHw M5 (zhd (H.o.ext eb)) zaF) zaF) zat;replace R1:=zwr M7 (zwr M6 (zwr M5 R1 zaF) zaF) zat;replace R2:=zwr M7 (zwr M6 (zwr M5 R2 zaF) zaF) zat;replace R3:=zwr M7 (zwr M6 (zwr M5 R3 zaF) zaF) zat;replace R4:=zwr M7 (zwr M6 (zwr M5 R4 zaF) zaF) zat;exact ⟨_,rfl,EW.o,Rd.widen (A:=B) (zca (RdM.mc (m:=⟨zbF ⟨sc,su,sa,sp⟩,zbM (gen+1) [],true,0,falls,cls⟩) ⟨R1.o,R2.o,R3.o,R4.o,Rd.all fun w=>zas.nil w,Rd.all fun w=>zbu w,H.o.clients⟩)) (fun k _ h=>HK.o.2.2.2 k h)⟩

open Go.RowKit Go.Mk

theorem Tryz.infoClient:(Tryz.prog.info? 55).map (fun i=>(i.zero,i.size,i.bytes))=some (some (.agg zC),6,96):=by kernel_rfl

theorem zfv (m:Mc) (c u a p box plan cl:Value) (n:Nat) (ol:List Cl) (oat:Int) (osent:Bool) (ogen:Int) (xl:List (List UInt8)) (gl:List Rp) (calls ob2 got:Value) (w:World) (A:Nat->Prop) (h:RdM A w m c u a p box plan cl)
  (hc1:Rd A (fun w=>zas 4 zdw w calls ol) w) (hc2:Rd A (fun w=>zas 1 zcc w ob2 xl) w) (hc3:Rd A (fun w=>zas 2 zd6 w got gl) w) (hn:n < m.clients.length) (hl:m.clients.length<=1000) :
  zaK Tryz.prog 36 #[.agg (zaH m c u a p box plan cl).toArray,I n,.agg #[calls,I oat,.bool osent,I ogen,ob2,got]] w A (fun r w'=>Agg zc1 { m with clients:=m.clients.set n ⟨ol,oat,osent,ogen,xl,gl⟩ } r w'):=by
 unfold zaK;obtain ⟨ca,cc,ua,uc,aa,ac,pa,pc,xa,xc,la,lc,ka,kc,rfl,rfl,rfl,rfl,rfl,rfl,rfl⟩:=h.slices;obtain ⟨oa,oc,rfl⟩:=zag hc1.o;obtain ⟨ob,od,rfl⟩:=zag hc2.o;obtain ⟨og,oh,rfl⟩:=zag hc3.o;obtain ⟨⟨sc,su,sa,sp⟩,⟨gen,bl,busy,⟨nc,nt,⟨nk,na,no,nn⟩⟩,pl,⟨se,sn⟩⟩,up,pause,falls,cls⟩:=m;simp only [zaH] at *;have EW:=zhd (Ext.refl w);obtain ⟨B,hB⟩:=zdF A w.heap.size 3;have HK:=zhd hB;clear hB;have H:=zhd (h.widen HK.o.1);have C1:=zhd (hc1.widen HK.o.1);have C2:=zhd (hc2.widen HK.o.1);have C3:=zhd (hc3.widen HK.o.1);clear h hc1 hc2 hc3;obtain ⟨css,hcs⟩:=zdk (by decide) H.o.clients;have HCS:=zhd hcs.left;have HRW:=zhd hcs.right;clear hcs;have HN:=zhd hn;have HL:=zhd hl;clear hn hl;obtain ⟨i0,hi,hz0,hz1,hz2⟩:=info_parts Tryz.infoClient;have HI:=zhd hi;clear hi;go_enter Tryz.func36,Tryz.ntmps36
 go_wp2_with (with_reducible refine zT ?_)
 refine zaj rfl 44 (.tmp 0) rfl #[.slice ca sc.length cc,.slice ua su.length uc,.slice aa sa.length ac,.slice pa sp.length pc,I gen,.slice xa bl.length xc,.bool busy,I nc,I nt,I nk,I na,I no,I nn,.slice la pl.length lc,I se,I sn,.bool up,I pause,I falls,.slice ka cls.length kc] rfl (fun b0 w1_ M1=>?_);have zab:=zmb M1;go_wp2_with (with_reducible refine zT ?_)
 refine zaj rfl 55 (.tmp 2) rfl #[.slice oa ol.length oc,I oat,.bool osent,I ogen,.slice ob xl.length od,.slice og gl.length oh] rfl (fun b1 w2_ M2=>?_);have zaw:=zld zab M2;have zad:=zmb M2;go_wp2_with (with_reducible refine zT ?_)
 refine zae rfl 44 zM (by kernel_rfl) (fun b2 w3_ M3=>?_);replace zab:=zmo M2 zab;have zaU:=zld zab M3;have zak:=zmb M3;have za0:=zA0 M1;have zaF:=znb HK za0 (by decide);have zbm:=zob za0;have za2:=zA1 za0 M1 M2;have zcd:=zA1 za2 M2 M3;have zaO:=znb HK zcd (by decide);have zbp:=zob zcd;go_wp2_with (with_reducible refine zT ?_)
 unfold Hid;refine zcw rfl 55 0 #[] (by kernel_rfl) (fun b3 w4_ M4=>?_);replace zab:=zmo M3 zab;have za7:=zld zab M4;replace zad:=zmo M3 zad;have zbn:=zld zak M4;obtain ⟨B1,HB1⟩:=zEx B b3;have zgp:=zIn HB1;replace EW:=zet (zet (zet EW M1) M2) M3;have zcN:=zOn M4 EW;replace zab:=zmo M4 zab;have c19:=zaa (i:=19) zab.o rfl;go_wp2_with (first | (at_builtin; refine zbG ?_) | (with_reducible refine zT ?_))
 unfold Hid;clear c19;replace HCS:=zme M4 (zmd HB1 M4 (zme M3 (zme M2 (zme M1 HCS))));have hones:=HCS.o.o.ones zsf;have hfull:zdr b3 55 6 0 [] (.slice (some ⟨b3,0,none⟩) 0 0) w4_:=⟨b3,rfl,zdi M4.o (Nat.le_refl _) rfl (by decide)⟩;replace HRW:=zme M4 (zmd HB1 M4 (zme M3 (zme M2 (zme M1 HRW))));refine ze6 rfl (.tmp 7) (.tmp 9) 42 rfl b3 55 i0 (.agg zC) 6 96 zqY HI.o hz0 hz1 hz2 rfl (by decide) _ 0 [] rfl hfull (.slice ka cls.length kc) rfl cls.length css.flatten HRW.o.o hones (by have:=HL.o; omega) (by decide) (by have:=M4.o.size; omega) ?_;intro v10 w5 ho5 e5;simp only [Nat.zero_add,List.nil_append] at ho5;clear hfull hones
 obtain ⟨g,cap,rfl⟩:∃ g cap,v10=.slice (some ⟨g,0,none⟩) cls.length cap:=by
  rcases ho5.2 with ⟨_,e1⟩ | ⟨g,cap,cur,e1,_⟩
  ·have q:n < cls.length:=HN.o; omega
  ·exact ⟨g,cap,e1⟩
 have hbg:b3<=g:=(ho5.lt g rfl).1;obtain ⟨B11,HB11⟩:=zEx B1 g;have hnar:∀ k,k < w4_.heap.size->B1 k->B11 k:=fun k hk h=>(HB11.o k).2 ⟨h,by have q2:=M4.o.size; have q3:=((HB1.o k).1 h).2; omega⟩;have N_g:=zNn HB11;have zjz:=zIn HB11;replace H:=zhd ((zhd ((zMD HB1 M4 (zhd ((zhd ((zhd (H.o.ext M1.o.ext)).o.ext M2.o.ext)).o.ext M3.o.ext))).o.ext M4.o.ext)).o.widen (B:=B11) hnar);replace C1:=zhd ((zme M4 (zmd HB1 M4 (zme M3 (zme M2 (zme M1 C1))))).o.widen (B:=B11) hnar);replace C2:=zhd ((zme M4 (zmd HB1 M4 (zme M3 (zme M2 (zme M1 C2))))).o.widen (B:=B11) hnar);replace C3:=zhd ((zme M4 (zmd HB1 M4 (zme M3 (zme M2 (zme M1 C3))))).o.widen (B:=B11) hnar);replace HCS:=zhd (HCS.o.widen (B:=B11) hnar);replace HRW:=zhd (HRW.o.widen (B:=B11) hnar);clear hnar;have O_g:Hid (w.heap.size<=g):=by unfold Hid; have q:=zcN.o; omega
 have HO:=zhd ho5;have HBG:=zhd hbg;clear ho5 hbg;have znG:Hid (b0 < g):=Nat.lt_of_lt_of_le za7.o HBG.o;have zsL:Hid (b2 < g):=Nat.lt_of_lt_of_le zbn.o HBG.o;go_wp2_with (with_reducible refine zT ?_)
 replace zab:=zbx zab e5;refine zal rfl 42 (.tmp 11) (.tmp 10) rfl b0 19 rfl [.slice (some ⟨g,0,none⟩) cls.length cap] (rfl) zab rfl zr4 rfl [.slice ca sc.length cc,.slice ua su.length uc,.slice aa sa.length ac,.slice pa sp.length pc,I gen,.slice xa bl.length xc,.bool busy,I nc,I nt,I nk,I na,I no,I nn,.slice la pl.length lc,I se,I sn,.bool up,I pause,I falls,.slice (some ⟨g,0,none⟩) cls.length cap] rfl (fun w5_ M5=>?_);replace zab:=zwb M5;replace zaF:=znw HB11 (znw HB1 zaF);have c19:=zaa (i:=19) zab.o rfl;go_wp2_with (with_reducible refine zT ?_)
 clear c19;replace zad:=zwg M5 (zbx (zmo M4 zad) e5) zaw;refine zah rfl 55 (.tmp 5) rfl b1 rfl zad zbN zbI (fun v15 H_v15=>?_);have hn0:(0:Int)<=(n:Int):=by omega
 have hn1:(n:Int) < (cls.length:Int):=by have q:n < cls.length:=HN.o; omega
 go_wp2_with (with_reducible refine zT ?_)
 unfold Hid;clear hn0 hn1;replace HO:=zhd (M5.o.owns HO.o (zem znG.o));obtain ⟨cur,hgb,hbb,hcsz,htk,hncap,hmax⟩:=zfP HO.o;have hnl:n < cls.length:=HN.o;refine zcG rfl 55 (.tmp 16) (.tmp 15) rfl g (n * 6) rfl [.slice oa ol.length oc,I oat,.bool osent,I ogen,.slice ob xl.length od,.slice og gl.length oh] (by rw [show _=Value.agg #[.slice oa ol.length oc,I oat,.bool osent,I ogen,.slice ob xl.length od,.slice og gl.length oh] from H_v15.o]; rfl) hgb (by rw [hcsz]; simp only [List.length_cons,List.length_nil]; omega) (by kernel_rfl) (zbC rfl) _ rfl (fun w6_ M6=>?_);have hO2:=zeB hbb hcsz htk hncap hmax M6.o (by simp only [List.length_cons,List.length_nil]; omega);replace HCS:=zwr M5 (zrx HCS e5) zaF;rw [<- zfi (size:=6) (by decide) HCS.o.o.sizes (by rw [HCS.o.o.1]; exact hnl) rfl] at hO2;replace HO:=zhd hO2;clear hO2 hgb hbb hcsz htk hncap hmax;clear HRW;go_wp2_with (with_reducible refine zT ?_)
 replace zab:=zwl M6 zab znG;refine zah rfl 44 (.tmp 3) rfl b0 rfl zab zaS zaG (fun v17 H_v17=>?_);go_wp2_with (with_reducible refine zT ?_)
 replace zak:=zwl M6 (zwg M5 (zbx (zmo M4 zak) e5) zaU) zsL;refine zac rfl 44 (.tmp 6) (.tmp 17) rfl b2 rfl _ (zcv H_v17) zak rfl zaG rfl (fun w7_ M7=>?_);replace zak:=zwb M7;replace zaO:=znw HB11 (znw HB1 zaO);go_wp2
 have z0:=zaq (P:=Tryz.prog) 44 zak.o zaS (by kernel_rfl);refine bodyPost_ret (by simp [results,Tryz.results36,asAddr,z0,Act.put]; rfl) rfl ?_;have hin:∀ k,B11 k->B k:=fun k h=>zgp.o k (zjz.o k h);have hnew:∀ k,b3<=k->B k:=fun k h=>HK.o.2.1 k (by have q:=zbn.o; have q2:=zcd.o; omega);replace C1:=zwr M7 (zwr M6 (zwr M5 (zrx C1 e5) zaF) N_g) zaO;replace C2:=zwr M7 (zwr M6 (zwr M5 (zrx C2 e5) zaF) N_g) zaO;replace C3:=zwr M7 (zwr M6 (zwr M5 (zrx C3 e5) zaF) N_g) zaO;replace HCS:=zwr M7 (zwr M6 HCS N_g) zaO;replace HO:=zhd (M7.o.owns HO.o (zem zsL.o));have hcl:Rd B (fun w=>zas 6 zcC w (.slice (some ⟨g,0,none⟩) cls.length cap) (cls.set n ⟨ol,oat,osent,ogen,xl,gl⟩)) w7_:=zfA (fun k h _=>hnew k h) (Rd.setE (HCS.o.widen fun k _ h=>hin k h) (zc0 (c:=⟨ol,oat,osent,ogen,xl,gl⟩) (C1.o.widen fun k _ h=>hin k h) (C2.o.widen fun k _ h=>hin k h) (C3.o.widen fun k _ h=>hin k h)) rfl n) HO.o (by decide);replace H:=zHw M7 (zHw M6 (zHw M5 (zhd (H.o.ext e5)) zaF) N_g) zaO;have H2:=H.o.widen (B:=B) (fun k _ h=>hin k h);replace EW:=zwe M7 (zwe M6 (zwe M5 (zhd ((zet EW M4).o.trans e5)) zbm) O_g) zbp;exact ⟨_,rfl,EW.o,Rd.widen (A:=B) (zca (RdM.mc (m:=⟨⟨sc,su,sa,sp⟩,⟨gen,bl,busy,⟨nc,nt,⟨nk,na,no,nn⟩⟩,pl,⟨se,sn⟩⟩,up,pause,falls,(cls.set n ⟨ol,oat,osent,ogen,xl,gl⟩)⟩) ⟨H2.cells,H2.undo,H2.answers,H2.past,H2.box,H2.plan,hcl⟩)) (fun k _ h=>HK.o.2.2.2 k h)⟩

open Go.RowKit Go.Mk

def zbU (l:List Rp):List Value:=l.flatMap fun x=>[I x.err,I x.n]
theorem zkB (l:List Rp):(zbU l).length=l.length * 2:=by
 unfold zbU
 induction l with
 | nil=>rfl
 | cons p l ih=>simp [List.flatMap_cons,ih]; omega
theorem zfu (l m:List Rp):zbU (l++m)=zbU l++zbU m:=by simp [zbU]
theorem ze8 (l:List Rp):∀ u ∈ zbU l,u.oneCell'=true:=by
 intro u hu
 unfold zbU at hu
 rw [List.mem_flatMap] at hu
 obtain ⟨p,_,hp⟩:=hu
 simp at hp
 rcases hp with rfl | rfl <;> rfl
theorem zhe {w:World} {v:Value} {l:List Rp}:zas 2 zd6 w v l↔Row w 2 v l.length (zbU l):=zdx (f:=fun (x:Rp)=>[I x.err,I x.n]) (fun _=>rfl)
theorem zgN {base e n:Nat} {v:Value} {l:List Rp} {w:World} (h:w.ownsRow base e 2 v n (zbU l)):Rd (fun k=>base<=k) (fun w=>zas 2 zd6 w v l) w:=by
 have hl:l.length=n:=by have:=h.1; rw [zkB] at this; omega
 subst hl
 exact (zdV h).imp fun w h=>zhe.2 h

def zlJ {X:Type} (R:El X) (x:X) (b:List UInt8) (e:Int) (r:Value) (w:World):Prop:=∃ (cs:List Value) (bv:Value),r=.tuple #[.agg cs.toArray,bv,I e]/\R w cs x/\zbd w bv b
theorem zjc {X:Type} {R:El X} {x:X} {b:List UInt8} {e:Int} {r:Value} {A:Nat->Prop} {w:World} (h:Rd A (zlJ R x b e r) w):∃ (cs:List Value) (bv:Value),r=.tuple #[.agg cs.toArray,bv,I e]/\Rd A (fun w=>R w cs x) w/\Rd A (fun w=>zbd w bv b) w:=by
 obtain ⟨cs,bv,e1,_⟩:=h.o
 have key:∀ w',zlJ R x b e r w'->R w' cs x/\zbd w' bv b:=fun w' ⟨cs2,bv2,e2,h3⟩=>by
  rw [e1] at e2
  have:cs=cs2/\bv=bv2:=by simpa using e2
  obtain ⟨rfl,rfl⟩:=this
  exact h3
 exact ⟨cs,bv,e1,h.imp fun w' hw=>(key w' hw).1,h.imp fun w' hw=>(key w' hw).2⟩
theorem zcM {X:Type} {R:El X} {x:X} {b:List UInt8} {e:Int} {cs:List Value} {bv:Value} {A:Nat->Prop} {w:World} (h:Rd A (fun w=>R w cs x) w) (h2:Rd A (fun w=>zbd w bv b) w):Rd A (zlJ R x b e (.tuple #[.agg cs.toArray,bv,I e])) w:=(h.and h2).imp fun _ h=>⟨cs,bv,rfl,h.1,h.2⟩

theorem zg8 {A:Nat->Prop} {w:World} {v:Value} {b:List UInt8} {l:List (List UInt8)} (h:Rd A (fun w=>zas 1 zcc w v (b::l)) w):∃ xb xo xc bv,v=.slice (some ⟨xb,xo,none⟩) (l.length+1) xc/\l.length+1<=xc/\xc<=maxLen/\Rd A (fun w=>w.cell? ⟨xb,xo,none⟩=some bv/\zbd w bv b) w/\Rd A (fun w=>zas 1 zcc w (.slice (some ⟨xb,xo+1,none⟩) l.length (xc - 1)) l) w:=by
 obtain ⟨css,h2⟩:=zdk (by decide) h
 obtain ⟨he,hl,ao,xc,e,h3,h4,h0,h5⟩:=h2.o
 obtain ⟨c,css',rfl⟩:∃ c css',css=c::css':=by
  cases css with
  | nil=>have:=he.1; simp at this
  | cons c css'=>exact ⟨c,css',rfl⟩
 obtain ⟨hc,bv,rfl,hb⟩:=he.2 0 c b rfl rfl
 obtain ⟨xb,xo,rfl,hcell⟩:=h5 0 bv rfl
 refine ⟨xb,xo,xc,bv,e,by simpa using h3,h4,h2.imp fun w' hw=>?_,h.imp fun w' hw=>?_⟩
 ·obtain ⟨he',hl',ao',xc',e',_,_,_,h5'⟩:=hw
  obtain ⟨_,bv',e1,hb'⟩:=he'.2 0 _ b rfl rfl
  simp at e1
  subst e1
  obtain ⟨xb',xo',ea,hcell'⟩:=h5' 0 bv rfl
  rw [e,ea] at e'
  simp only [Value.slice.injEq,Option.some.injEq,Addr.mk.injEq,and_true] at e'
  obtain ⟨⟨rfl,rfl⟩,_⟩:=e'
  exact ⟨hcell',hb'⟩
 ·rw [e] at hw
  have:=zas.drop (by decide) hw 1 (by simp)
  simpa using this

end Go.Proofs.YtdmipnnfoolelafGreat
