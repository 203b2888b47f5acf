/- Texts of the proof, merged: N2 N3 N4a. -/
import Derived.Test.YtdmipnnfooleladGreatJC
import Derived.Test.YtdmipnnfooleladGreatJH

namespace Go.Proofs.YtdmipnnfooleladGreat
open Go.RowKit Go.Mk
set_option maxRecDepth 100000

set_option maxHeartbeats 400000 in
theorem refFall_keeps (m : Mc) (c u a p box plan cl : Value) (w : World) (A : Nat → Prop) (h : RdM A w m c u a p box plan cl) (hf : 0 ≤ m.falls) :
  Keeps Tryz.prog 48 #[.agg (cells20 m c u a p box plan cl).toArray] w A (fun r w'=>TupE elMc (fallM m).1 (fallM m).2 r w'):=by
 unfold Keeps
 obtain ⟨ca,cc,ua,uc,aa,ac,pa,pc,xa,xc,la,lc,ka,kc,rfl,rfl,rfl,rfl,rfl,rfl,rfl⟩:=h.slices
 obtain ⟨⟨sc,su,sa,sp⟩,⟨gen,bl,busy,⟨nc,nt,⟨nk,na,no,nn⟩⟩,pl,⟨se,sn⟩⟩,up,pause,falls,cls⟩:=m
 simp only [cells20] at *
 have H:=Lib.hid h
 clear h
 have EW:=Lib.hid (Ext.refl w)
 obtain ⟨B,hB⟩:=away A w.heap.size 2
 have HK:=Lib.hid hB
 clear hB
 replace H:=Lib.hid (H.out.widen HK.out.1)
 cases up
 case false =>
  have hX : fallM ⟨⟨sc,su,sa,sp⟩,⟨gen,bl,busy,⟨nc,nt,⟨nk,na,no,nn⟩⟩,pl,⟨se,sn⟩⟩,false,pause,falls,cls⟩ = (⟨⟨sc,su,sa,sp⟩,⟨gen,bl,busy,⟨nc,nt,⟨nk,na,no,nn⟩⟩,pl,⟨se,sn⟩⟩,false,pause,falls,cls⟩,11):=rfl
  rw [hX]
  clear hX
  go_enter Tryz.func48,Tryz.ntmps48
  go_wp2_with ((with_reducible refine zst (L:=[44,41,31,100]) ?_ ?_); exact rfl)
  unfold Hid
  refine wpList_boxB rfl 44 (.tmp 0) rfl #[.slice ca sc.length cc,.slice ua su.length uc,.slice aa sa.length ac,.slice pa sp.length pc,I gen,.slice xa bl.length xc,.bool busy,I nc,I nt,I nk,I na,I no,I nn,.slice la pl.length lc,I se,I sn,.bool false,I pause,I falls,.slice ka cls.length kc] rfl (fun b0 w1_ M1=>?_)
  have B_b0:=zmb M1
  replace H:=Lib.hid (H.out.ext M1.out.ext)
  replace EW:=zet EW M1
  go_wp2_with ((with_reducible refine zst (L:=[44,41,31,100]) ?_ ?_); exact rfl)
  unfold Hid
  refine wpList_allocB rfl 44 #[.slice none 0 0,.slice none 0 0,.slice none 0 0,.slice none 0 0,I 0,.slice none 0 0,.bool false,I 0,I 0,I 0,I 0,I 0,I 0,.slice none 0 0,I 0,I 0,.bool false,I 0,I 0,.slice none 0 0] (by kernel_rfl) (fun b1 w2_ M2=>?_)
  have D_b0_b1:=zld B_b0 M2
  replace B_b0:=zmo M2 B_b0
  have B_b1:=zmb M2
  replace H:=Lib.hid (H.out.ext M2.out.ext)
  replace EW:=zet EW M2
  have A_b0 : Hid (b0 = w.heap.size + 0):=by unfold Hid; have q0:=M1.out.at_; have r0:=M1.out.size; omega
  have N_b0:=znb HK A_b0 (by decide)
  have O_b0:=zob A_b0
  have A_b1 : Hid (b1 = w.heap.size + 1):=by unfold Hid; have q0:=M1.out.at_; have r0:=M1.out.size; have q1:=M2.out.at_; have r1:=M2.out.size; omega
  have N_b1:=znb HK A_b1 (by decide)
  have O_b1:=zob A_b1
  have c16:=cell_of (i:=16) B_b0.out rfl
  have c18:=cell_of (i:=18) B_b0.out rfl
  go_wp2_with ((with_reducible refine zst (L:=[44,41,31,100]) ?_ ?_); exact rfl)
  unfold Hid
  clear c16 c18
  refine wpList_loadW rfl 44 (.tmp 1) rfl b0 rfl B_b0 Tryz.underlying44 (by kernel_rfl) (fun v7 H_v7=>?_)
  go_wp2_with ((with_reducible refine zst (L:=[44,41,31,100]) ?_ ?_); exact rfl)
  unfold Hid
  refine wpList_storeW rfl 44 (.tmp 2) (.tmp 7) rfl b1 rfl _ (zcv H_v7) B_b1 rfl (by kernel_rfl) rfl (fun w3_ M3=>?_)
  replace B_b0:=zwl M3 B_b0 D_b0_b1
  replace B_b1:=zwb M3
  replace H:=Lib.hid (M3.out.rdM H.out N_b1.out)
  replace EW:=zwe M3 EW O_b1
  go_wp2
  have z0:=run_box (P:=Tryz.prog) 44 B_b1.out Tryz.underlying44 (by kernel_rfl)
  refine bodyPost_ret (by simp [results,Tryz.results48,asAddr,z0]; rfl) rfl ?_
  exact ⟨_,rfl,EW.out,Rd.widen (A:=B) (tupE_rd (RdM.mc (m:=⟨⟨sc,su,sa,sp⟩,⟨gen,bl,busy,⟨nc,nt,⟨nk,na,no,nn⟩⟩,pl,⟨se,sn⟩⟩,false,pause,falls,cls⟩) H.out)) (fun k _ h=>HK.out.2.2.2 k h)⟩
 by_cases h6 : 6 ≤ falls
 case pos =>
  have hX : fallM ⟨⟨sc,su,sa,sp⟩,⟨gen,bl,busy,⟨nc,nt,⟨nk,na,no,nn⟩⟩,pl,⟨se,sn⟩⟩,true,pause,falls,cls⟩ = (⟨⟨sc,su,sa,sp⟩,⟨gen,bl,busy,⟨nc,nt,⟨nk,na,no,nn⟩⟩,pl,⟨se,sn⟩⟩,true,pause,falls,cls⟩,5):=by
   show (if ¬ (true = true) then _ else if 6 ≤ falls then _ else _) = _
   rw [if_neg (by simp),if_pos h6]
  rw [hX]
  have h5 : (5 : Int) < falls:=by omega
  clear hX h6
  go_enter Tryz.func48,Tryz.ntmps48
  go_wp2_with ((with_reducible refine zst (L:=[44,41,31,100]) ?_ ?_); exact rfl)
  unfold Hid
  refine wpList_boxB rfl 44 (.tmp 0) rfl #[.slice ca sc.length cc,.slice ua su.length uc,.slice aa sa.length ac,.slice pa sp.length pc,I gen,.slice xa bl.length xc,.bool busy,I nc,I nt,I nk,I na,I no,I nn,.slice la pl.length lc,I se,I sn,.bool true,I pause,I falls,.slice ka cls.length kc] rfl (fun b0 w1_ M1=>?_)
  have B_b0:=zmb M1
  replace H:=Lib.hid (H.out.ext M1.out.ext)
  replace EW:=zet EW M1
  go_wp2_with ((with_reducible refine zst (L:=[44,41,31,100]) ?_ ?_); exact rfl)
  unfold Hid
  refine wpList_allocB rfl 44 #[.slice none 0 0,.slice none 0 0,.slice none 0 0,.slice none 0 0,I 0,.slice none 0 0,.bool false,I 0,I 0,I 0,I 0,I 0,I 0,.slice none 0 0,I 0,I 0,.bool false,I 0,I 0,.slice none 0 0] (by kernel_rfl) (fun b1 w2_ M2=>?_)
  have D_b0_b1:=zld B_b0 M2
  replace B_b0:=zmo M2 B_b0
  have B_b1:=zmb M2
  replace H:=Lib.hid (H.out.ext M2.out.ext)
  replace EW:=zet EW M2
  have A_b0 : Hid (b0 = w.heap.size + 0):=by unfold Hid; have q0:=M1.out.at_; have r0:=M1.out.size; omega
  have N_b0:=znb HK A_b0 (by decide)
  have O_b0:=zob A_b0
  have A_b1 : Hid (b1 = w.heap.size + 1):=by unfold Hid; have q0:=M1.out.at_; have r0:=M1.out.size; have q1:=M2.out.at_; have r1:=M2.out.size; omega
  have N_b1:=znb HK A_b1 (by decide)
  have O_b1:=zob A_b1
  have c16:=cell_of (i:=16) B_b0.out rfl
  have c18:=cell_of (i:=18) B_b0.out rfl
  go_wp2_with ((with_reducible refine zst (L:=[44,41,31,100]) ?_ ?_); exact rfl)
  unfold Hid
  clear c16 c18
  refine wpList_loadW rfl 44 (.tmp 1) rfl b0 rfl B_b0 Tryz.underlying44 (by kernel_rfl) (fun v11 H_v11=>?_)
  go_wp2_with ((with_reducible refine zst (L:=[44,41,31,100]) ?_ ?_); exact rfl)
  unfold Hid
  refine wpList_storeW rfl 44 (.tmp 2) (.tmp 11) rfl b1 rfl _ (zcv H_v11) B_b1 rfl (by kernel_rfl) rfl (fun w3_ M3=>?_)
  replace B_b0:=zwl M3 B_b0 D_b0_b1
  replace B_b1:=zwb M3
  replace H:=Lib.hid (M3.out.rdM H.out N_b1.out)
  replace EW:=zwe M3 EW O_b1
  go_wp2
  have z0:=run_box (P:=Tryz.prog) 44 B_b1.out Tryz.underlying44 (by kernel_rfl)
  refine bodyPost_ret (by simp [results,Tryz.results48,asAddr,z0]; rfl) rfl ?_
  exact ⟨_,rfl,EW.out,Rd.widen (A:=B) (tupE_rd (RdM.mc (m:=⟨⟨sc,su,sa,sp⟩,⟨gen,bl,busy,⟨nc,nt,⟨nk,na,no,nn⟩⟩,pl,⟨se,sn⟩⟩,true,pause,falls,cls⟩) H.out)) (fun k _ h=>HK.out.2.2.2 k h)⟩
 have hcase : falls = 0 ∨ falls = 1 ∨ falls = 2 ∨ falls = 3 ∨ falls = 4 ∨ falls = 5:=by omega
 clear h6 hf
 rcases hcase with rfl | rfl | rfl | rfl | rfl | rfl
 ·have hX : fallM ⟨⟨sc,su,sa,sp⟩,⟨gen,bl,busy,⟨nc,nt,⟨nk,na,no,nn⟩⟩,pl,⟨se,sn⟩⟩,true,pause,0,cls⟩ = (⟨⟨sc,su,sa,sp⟩,idleSv gen [],false,1,1,cls⟩,0):=rfl
  rw [hX]
  clear hX
  go_enter Tryz.func48,Tryz.ntmps48
  go_wp2_with ((with_reducible refine zst (L:=[44,41,31,100]) ?_ ?_); exact rfl)
  unfold Hid
  refine wpList_boxB rfl 44 (.tmp 0) rfl #[.slice ca sc.length cc,.slice ua su.length uc,.slice aa sa.length ac,.slice pa sp.length pc,I gen,.slice xa bl.length xc,.bool busy,I nc,I nt,I nk,I na,I no,I nn,.slice la pl.length lc,I se,I sn,.bool true,I pause,I 0,.slice ka cls.length kc] rfl (fun b0 w1_ M1=>?_)
  have B_b0:=zmb M1
  replace H:=Lib.hid (H.out.ext M1.out.ext)
  replace EW:=zet EW M1
  go_wp2_with ((with_reducible refine zst (L:=[44,41,31,100]) ?_ ?_); exact rfl)
  unfold Hid
  refine wpList_allocB rfl 44 #[.slice none 0 0,.slice none 0 0,.slice none 0 0,.slice none 0 0,I 0,.slice none 0 0,.bool false,I 0,I 0,I 0,I 0,I 0,I 0,.slice none 0 0,I 0,I 0,.bool false,I 0,I 0,.slice none 0 0] (by kernel_rfl) (fun b1 w2_ M2=>?_)
  have D_b0_b1:=zld B_b0 M2
  replace B_b0:=zmo M2 B_b0
  have B_b1:=zmb M2
  replace H:=Lib.hid (H.out.ext M2.out.ext)
  replace EW:=zet EW M2
  have A_b0 : Hid (b0 = w.heap.size + 0):=by unfold Hid; have q0:=M1.out.at_; have r0:=M1.out.size; omega
  have N_b0:=znb HK A_b0 (by decide)
  have O_b0:=zob A_b0
  have A_b1 : Hid (b1 = w.heap.size + 1):=by unfold Hid; have q0:=M1.out.at_; have r0:=M1.out.size; have q1:=M2.out.at_; have r1:=M2.out.size; omega
  have N_b1:=znb HK A_b1 (by decide)
  have O_b1:=zob A_b1
  have c16:=cell_of (i:=16) B_b0.out rfl
  have c18:=cell_of (i:=18) B_b0.out rfl
  go_wp2_with ((with_reducible refine zst (L:=[44,41,31,100]) ?_ ?_); exact rfl)
  unfold Hid
  clear c16 c18
  refine wpList_storeP rfl 3 (.tmp 15) (.tmp 14) rfl b0 18 rfl [I 1] (rfl) B_b0 rfl (by kernel_rfl) rfl [.slice ca sc.length cc,.slice ua su.length uc,.slice aa sa.length ac,.slice pa sp.length pc,I gen,.slice xa bl.length xc,.bool busy,I nc,I nt,I nk,I na,I no,I nn,.slice la pl.length lc,I se,I sn,.bool true,I pause,I 1,.slice ka cls.length kc] rfl (fun w3_ M3=>?_)
  replace B_b0:=zwb M3
  replace B_b1:=zwg M3 B_b1 D_b0_b1
  replace H:=Lib.hid (M3.out.rdM H.out N_b0.out)
  replace EW:=zwe M3 EW O_b0
  go_wp2_with ((with_reducible refine zst (L:=[44,41,31,100]) ?_ ?_); exact rfl)
  unfold Hid
  refine wpList_storeP rfl 4 (.tmp 16) (.const (.bool false)) rfl b0 16 rfl [.bool false] (rfl) B_b0 rfl (by kernel_rfl) rfl [.slice ca sc.length cc,.slice ua su.length uc,.slice aa sa.length ac,.slice pa sp.length pc,I gen,.slice xa bl.length xc,.bool busy,I nc,I nt,I nk,I na,I no,I nn,.slice la pl.length lc,I se,I sn,.bool false,I pause,I 1,.slice ka cls.length kc] rfl (fun w4_ M4=>?_)
  replace B_b0:=zwb M4
  replace B_b1:=zwg M4 B_b1 D_b0_b1
  replace H:=Lib.hid (M4.out.rdM H.out N_b0.out)
  replace EW:=zwe M4 EW O_b0
  go_wp2_with ((with_reducible refine zst (L:=[44,41,31,100]) ?_ ?_); exact rfl)
  unfold Hid
  refine wpList_litB rfl 3 7 #[I 1,I 1,I 2,I 3,I 3,I 3,I 3] (by kernel_rfl) (fun b2 w5_ M5=>?_)
  have D_b0_b2:=zld B_b0 M5
  have D_b1_b2:=zld B_b1 M5
  replace B_b0:=zmo M5 B_b0
  replace B_b1:=zmo M5 B_b1
  have B_b2:=zmb M5
  replace H:=Lib.hid (H.out.ext M5.out.ext)
  replace EW:=zet EW M5
  have c2:=cell_of (i:=1) B_b2.out rfl
  have c18:=cell_of (i:=18) B_b0.out rfl
  go_wp2_with ((with_reducible refine zst (L:=[44,41,31,100]) ?_ ?_); exact rfl)
  unfold Hid
  clear c18 c2
  refine wpList_storeP rfl 3 (.tmp 22) (.tmp 21) rfl b0 17 rfl [I 1] (rfl) B_b0 rfl (by kernel_rfl) rfl [.slice ca sc.length cc,.slice ua su.length uc,.slice aa sa.length ac,.slice pa sp.length pc,I gen,.slice xa bl.length xc,.bool busy,I nc,I nt,I nk,I na,I no,I nn,.slice la pl.length lc,I se,I sn,.bool false,I 1,I 1,.slice ka cls.length kc] rfl (fun w6_ M6=>?_)
  replace B_b0:=zwb M6
  replace B_b1:=zwg M6 B_b1 D_b0_b1
  replace B_b2:=zwg M6 B_b2 D_b0_b2
  replace H:=Lib.hid (M6.out.rdM H.out N_b0.out)
  replace EW:=zwe M6 EW O_b0
  have c4:=cell_of (i:=4) B_b0.out rfl
  go_wp2_with ((with_reducible refine zst (L:=[44,41,31,100]) ?_ ?_); exact rfl)
  unfold Hid
  clear c4
  refine wpList_buildB rfl 41 #[(0,.tmp 25)] rfl #[I gen,.slice none 0 0,.bool false,I 0,I 0,I 0,I 0,I 0,I 0,.slice none 0 0,I 0,I 0] (by kernel_rfl) (fun v26 H_v26=>?_)
  go_wp2_with ((with_reducible refine zst (L:=[44,41,31,100]) ?_ ?_); exact rfl)
  unfold Hid
  refine wpList_storeP rfl 41 (.tmp 27) (.tmp 26) rfl b0 4 rfl _ (zcv H_v26) B_b0 rfl (by kernel_rfl) rfl [.slice ca sc.length cc,.slice ua su.length uc,.slice aa sa.length ac,.slice pa sp.length pc,I gen,.slice none 0 0,.bool false,I 0,I 0,I 0,I 0,I 0,I 0,.slice none 0 0,I 0,I 0,.bool false,I 1,I 1,.slice ka cls.length kc] rfl (fun w7_ M7=>?_)
  replace B_b0:=zwb M7
  replace B_b1:=zwg M7 B_b1 D_b0_b1
  replace B_b2:=zwg M7 B_b2 D_b0_b2
  replace H:=Lib.hid (M7.out.rdM H.out N_b0.out)
  replace EW:=zwe M7 EW O_b0
  go_wp2_with ((with_reducible refine zst (L:=[44,41,31,100]) ?_ ?_); exact rfl)
  unfold Hid
  refine wpList_loadW rfl 44 (.tmp 1) rfl b0 rfl B_b0 Tryz.underlying44 (by kernel_rfl) (fun v28 H_v28=>?_)
  go_wp2_with ((with_reducible refine zst (L:=[44,41,31,100]) ?_ ?_); exact rfl)
  unfold Hid
  refine wpList_storeW rfl 44 (.tmp 2) (.tmp 28) rfl b1 rfl _ (zcv H_v28) B_b1 rfl (by kernel_rfl) rfl (fun w8_ M8=>?_)
  replace B_b0:=zwl M8 B_b0 D_b0_b1
  replace B_b1:=zwb M8
  replace B_b2:=zwg M8 B_b2 D_b1_b2
  replace H:=Lib.hid (M8.out.rdM H.out N_b1.out)
  replace EW:=zwe M8 EW O_b1
  go_wp2
  have z0:=run_box (P:=Tryz.prog) 44 B_b1.out Tryz.underlying44 (by kernel_rfl)
  refine bodyPost_ret (by simp [results,Tryz.results48,asAddr,z0]; rfl) rfl ?_
  exact ⟨_,rfl,EW.out,Rd.widen (A:=B) (tupE_rd (RdM.mc (m:=⟨⟨sc,su,sa,sp⟩,idleSv gen [],false,1,1,cls⟩) ⟨H.out.cells,H.out.undo,H.out.answers,H.out.past,Rd.all fun w=>RowOf.nil w,Rd.all fun w=>writes_nil w,H.out.clients⟩)) (fun k _ h=>HK.out.2.2.2 k h)⟩
 ·have hX : fallM ⟨⟨sc,su,sa,sp⟩,⟨gen,bl,busy,⟨nc,nt,⟨nk,na,no,nn⟩⟩,pl,⟨se,sn⟩⟩,true,pause,1,cls⟩ = (⟨⟨sc,su,sa,sp⟩,idleSv gen [],false,2,2,cls⟩,0):=rfl
  rw [hX]
  clear hX
  go_enter Tryz.func48,Tryz.ntmps48
  go_wp2_with ((with_reducible refine zst (L:=[44,41,31,100]) ?_ ?_); exact rfl)
  unfold Hid
  refine wpList_boxB rfl 44 (.tmp 0) rfl #[.slice ca sc.length cc,.slice ua su.length uc,.slice aa sa.length ac,.slice pa sp.length pc,I gen,.slice xa bl.length xc,.bool busy,I nc,I nt,I nk,I na,I no,I nn,.slice la pl.length lc,I se,I sn,.bool true,I pause,I 1,.slice ka cls.length kc] rfl (fun b0 w1_ M1=>?_)
  have B_b0:=zmb M1
  replace H:=Lib.hid (H.out.ext M1.out.ext)
  replace EW:=zet EW M1
  go_wp2_with ((with_reducible refine zst (L:=[44,41,31,100]) ?_ ?_); exact rfl)
  unfold Hid
  refine wpList_allocB rfl 44 #[.slice none 0 0,.slice none 0 0,.slice none 0 0,.slice none 0 0,I 0,.slice none 0 0,.bool false,I 0,I 0,I 0,I 0,I 0,I 0,.slice none 0 0,I 0,I 0,.bool false,I 0,I 0,.slice none 0 0] (by kernel_rfl) (fun b1 w2_ M2=>?_)
  have D_b0_b1:=zld B_b0 M2
  replace B_b0:=zmo M2 B_b0
  have B_b1:=zmb M2
  replace H:=Lib.hid (H.out.ext M2.out.ext)
  replace EW:=zet EW M2
  have A_b0 : Hid (b0 = w.heap.size + 0):=by unfold Hid; have q0:=M1.out.at_; have r0:=M1.out.size; omega
  have N_b0:=znb HK A_b0 (by decide)
  have O_b0:=zob A_b0
  have A_b1 : Hid (b1 = w.heap.size + 1):=by unfold Hid; have q0:=M1.out.at_; have r0:=M1.out.size; have q1:=M2.out.at_; have r1:=M2.out.size; omega
  have N_b1:=znb HK A_b1 (by decide)
  have O_b1:=zob A_b1
  have c16:=cell_of (i:=16) B_b0.out rfl
  have c18:=cell_of (i:=18) B_b0.out rfl
  go_wp2_with ((with_reducible refine zst (L:=[44,41,31,100]) ?_ ?_); exact rfl)
  unfold Hid
  clear c16 c18
  refine wpList_storeP rfl 3 (.tmp 15) (.tmp 14) rfl b0 18 rfl [I 2] (rfl) B_b0 rfl (by kernel_rfl) rfl [.slice ca sc.length cc,.slice ua su.length uc,.slice aa sa.length ac,.slice pa sp.length pc,I gen,.slice xa bl.length xc,.bool busy,I nc,I nt,I nk,I na,I no,I nn,.slice la pl.length lc,I se,I sn,.bool true,I pause,I 2,.slice ka cls.length kc] rfl (fun w3_ M3=>?_)
  replace B_b0:=zwb M3
  replace B_b1:=zwg M3 B_b1 D_b0_b1
  replace H:=Lib.hid (M3.out.rdM H.out N_b0.out)
  replace EW:=zwe M3 EW O_b0
  go_wp2_with ((with_reducible refine zst (L:=[44,41,31,100]) ?_ ?_); exact rfl)
  unfold Hid
  refine wpList_storeP rfl 4 (.tmp 16) (.const (.bool false)) rfl b0 16 rfl [.bool false] (rfl) B_b0 rfl (by kernel_rfl) rfl [.slice ca sc.length cc,.slice ua su.length uc,.slice aa sa.length ac,.slice pa sp.length pc,I gen,.slice xa bl.length xc,.bool busy,I nc,I nt,I nk,I na,I no,I nn,.slice la pl.length lc,I se,I sn,.bool false,I pause,I 2,.slice ka cls.length kc] rfl (fun w4_ M4=>?_)
  replace B_b0:=zwb M4
  replace B_b1:=zwg M4 B_b1 D_b0_b1
  replace H:=Lib.hid (M4.out.rdM H.out N_b0.out)
  replace EW:=zwe M4 EW O_b0
  go_wp2_with ((with_reducible refine zst (L:=[44,41,31,100]) ?_ ?_); exact rfl)
  unfold Hid
  refine wpList_litB rfl 3 7 #[I 1,I 1,I 2,I 3,I 3,I 3,I 3] (by kernel_rfl) (fun b2 w5_ M5=>?_)
  have D_b0_b2:=zld B_b0 M5
  have D_b1_b2:=zld B_b1 M5
  replace B_b0:=zmo M5 B_b0
  replace B_b1:=zmo M5 B_b1
  have B_b2:=zmb M5
  replace H:=Lib.hid (H.out.ext M5.out.ext)
  replace EW:=zet EW M5
  have c2:=cell_of (i:=2) B_b2.out rfl
  have c18:=cell_of (i:=18) B_b0.out rfl
  go_wp2_with ((with_reducible refine zst (L:=[44,41,31,100]) ?_ ?_); exact rfl)
  unfold Hid
  clear c18 c2
  refine wpList_storeP rfl 3 (.tmp 22) (.tmp 21) rfl b0 17 rfl [I 2] (rfl) B_b0 rfl (by kernel_rfl) rfl [.slice ca sc.length cc,.slice ua su.length uc,.slice aa sa.length ac,.slice pa sp.length pc,I gen,.slice xa bl.length xc,.bool busy,I nc,I nt,I nk,I na,I no,I nn,.slice la pl.length lc,I se,I sn,.bool false,I 2,I 2,.slice ka cls.length kc] rfl (fun w6_ M6=>?_)
  replace B_b0:=zwb M6
  replace B_b1:=zwg M6 B_b1 D_b0_b1
  replace B_b2:=zwg M6 B_b2 D_b0_b2
  replace H:=Lib.hid (M6.out.rdM H.out N_b0.out)
  replace EW:=zwe M6 EW O_b0
  have c4:=cell_of (i:=4) B_b0.out rfl
  go_wp2_with ((with_reducible refine zst (L:=[44,41,31,100]) ?_ ?_); exact rfl)
  unfold Hid
  clear c4
  refine wpList_buildB rfl 41 #[(0,.tmp 25)] rfl #[I gen,.slice none 0 0,.bool false,I 0,I 0,I 0,I 0,I 0,I 0,.slice none 0 0,I 0,I 0] (by kernel_rfl) (fun v26 H_v26=>?_)
  go_wp2_with ((with_reducible refine zst (L:=[44,41,31,100]) ?_ ?_); exact rfl)
  unfold Hid
  refine wpList_storeP rfl 41 (.tmp 27) (.tmp 26) rfl b0 4 rfl _ (zcv H_v26) B_b0 rfl (by kernel_rfl) rfl [.slice ca sc.length cc,.slice ua su.length uc,.slice aa sa.length ac,.slice pa sp.length pc,I gen,.slice none 0 0,.bool false,I 0,I 0,I 0,I 0,I 0,I 0,.slice none 0 0,I 0,I 0,.bool false,I 2,I 2,.slice ka cls.length kc] rfl (fun w7_ M7=>?_)
  replace B_b0:=zwb M7
  replace B_b1:=zwg M7 B_b1 D_b0_b1
  replace B_b2:=zwg M7 B_b2 D_b0_b2
  replace H:=Lib.hid (M7.out.rdM H.out N_b0.out)
  replace EW:=zwe M7 EW O_b0
  go_wp2_with ((with_reducible refine zst (L:=[44,41,31,100]) ?_ ?_); exact rfl)
  unfold Hid
  refine wpList_loadW rfl 44 (.tmp 1) rfl b0 rfl B_b0 Tryz.underlying44 (by kernel_rfl) (fun v28 H_v28=>?_)
  go_wp2_with ((with_reducible refine zst (L:=[44,41,31,100]) ?_ ?_); exact rfl)
  unfold Hid
  refine wpList_storeW rfl 44 (.tmp 2) (.tmp 28) rfl b1 rfl _ (zcv H_v28) B_b1 rfl (by kernel_rfl) rfl (fun w8_ M8=>?_)
  replace B_b0:=zwl M8 B_b0 D_b0_b1
  replace B_b1:=zwb M8
  replace B_b2:=zwg M8 B_b2 D_b1_b2
  replace H:=Lib.hid (M8.out.rdM H.out N_b1.out)
  replace EW:=zwe M8 EW O_b1
  go_wp2
  have z0:=run_box (P:=Tryz.prog) 44 B_b1.out Tryz.underlying44 (by kernel_rfl)
  refine bodyPost_ret (by simp [results,Tryz.results48,asAddr,z0]; rfl) rfl ?_
  exact ⟨_,rfl,EW.out,Rd.widen (A:=B) (tupE_rd (RdM.mc (m:=⟨⟨sc,su,sa,sp⟩,idleSv gen [],false,2,2,cls⟩) ⟨H.out.cells,H.out.undo,H.out.answers,H.out.past,Rd.all fun w=>RowOf.nil w,Rd.all fun w=>writes_nil w,H.out.clients⟩)) (fun k _ h=>HK.out.2.2.2 k h)⟩
 ·have hX : fallM ⟨⟨sc,su,sa,sp⟩,⟨gen,bl,busy,⟨nc,nt,⟨nk,na,no,nn⟩⟩,pl,⟨se,sn⟩⟩,true,pause,2,cls⟩ = (⟨⟨sc,su,sa,sp⟩,idleSv gen [],false,3,3,cls⟩,0):=rfl
  rw [hX]
  clear hX
  go_enter Tryz.func48,Tryz.ntmps48
  go_wp2_with ((with_reducible refine zst (L:=[44,41,31,100]) ?_ ?_); exact rfl)
  unfold Hid
  refine wpList_boxB rfl 44 (.tmp 0) rfl #[.slice ca sc.length cc,.slice ua su.length uc,.slice aa sa.length ac,.slice pa sp.length pc,I gen,.slice xa bl.length xc,.bool busy,I nc,I nt,I nk,I na,I no,I nn,.slice la pl.length lc,I se,I sn,.bool true,I pause,I 2,.slice ka cls.length kc] rfl (fun b0 w1_ M1=>?_)
  have B_b0:=zmb M1
  replace H:=Lib.hid (H.out.ext M1.out.ext)
  replace EW:=zet EW M1
  go_wp2_with ((with_reducible refine zst (L:=[44,41,31,100]) ?_ ?_); exact rfl)
  unfold Hid
  refine wpList_allocB rfl 44 #[.slice none 0 0,.slice none 0 0,.slice none 0 0,.slice none 0 0,I 0,.slice none 0 0,.bool false,I 0,I 0,I 0,I 0,I 0,I 0,.slice none 0 0,I 0,I 0,.bool false,I 0,I 0,.slice none 0 0] (by kernel_rfl) (fun b1 w2_ M2=>?_)
  have D_b0_b1:=zld B_b0 M2
  replace B_b0:=zmo M2 B_b0
  have B_b1:=zmb M2
  replace H:=Lib.hid (H.out.ext M2.out.ext)
  replace EW:=zet EW M2
  have A_b0 : Hid (b0 = w.heap.size + 0):=by unfold Hid; have q0:=M1.out.at_; have r0:=M1.out.size; omega
  have N_b0:=znb HK A_b0 (by decide)
  have O_b0:=zob A_b0
  have A_b1 : Hid (b1 = w.heap.size + 1):=by unfold Hid; have q0:=M1.out.at_; have r0:=M1.out.size; have q1:=M2.out.at_; have r1:=M2.out.size; omega
  have N_b1:=znb HK A_b1 (by decide)
  have O_b1:=zob A_b1
  have c16:=cell_of (i:=16) B_b0.out rfl
  have c18:=cell_of (i:=18) B_b0.out rfl
  go_wp2_with ((with_reducible refine zst (L:=[44,41,31,100]) ?_ ?_); exact rfl)
  unfold Hid
  clear c16 c18
  refine wpList_storeP rfl 3 (.tmp 15) (.tmp 14) rfl b0 18 rfl [I 3] (rfl) B_b0 rfl (by kernel_rfl) rfl [.slice ca sc.length cc,.slice ua su.length uc,.slice aa sa.length ac,.slice pa sp.length pc,I gen,.slice xa bl.length xc,.bool busy,I nc,I nt,I nk,I na,I no,I nn,.slice la pl.length lc,I se,I sn,.bool true,I pause,I 3,.slice ka cls.length kc] rfl (fun w3_ M3=>?_)
  replace B_b0:=zwb M3
  replace B_b1:=zwg M3 B_b1 D_b0_b1
  replace H:=Lib.hid (M3.out.rdM H.out N_b0.out)
  replace EW:=zwe M3 EW O_b0
  go_wp2_with ((with_reducible refine zst (L:=[44,41,31,100]) ?_ ?_); exact rfl)
  unfold Hid
  refine wpList_storeP rfl 4 (.tmp 16) (.const (.bool false)) rfl b0 16 rfl [.bool false] (rfl) B_b0 rfl (by kernel_rfl) rfl [.slice ca sc.length cc,.slice ua su.length uc,.slice aa sa.length ac,.slice pa sp.length pc,I gen,.slice xa bl.length xc,.bool busy,I nc,I nt,I nk,I na,I no,I nn,.slice la pl.length lc,I se,I sn,.bool false,I pause,I 3,.slice ka cls.length kc] rfl (fun w4_ M4=>?_)
  replace B_b0:=zwb M4
  replace B_b1:=zwg M4 B_b1 D_b0_b1
  replace H:=Lib.hid (M4.out.rdM H.out N_b0.out)
  replace EW:=zwe M4 EW O_b0
  go_wp2_with ((with_reducible refine zst (L:=[44,41,31,100]) ?_ ?_); exact rfl)
  unfold Hid
  refine wpList_litB rfl 3 7 #[I 1,I 1,I 2,I 3,I 3,I 3,I 3] (by kernel_rfl) (fun b2 w5_ M5=>?_)
  have D_b0_b2:=zld B_b0 M5
  have D_b1_b2:=zld B_b1 M5
  replace B_b0:=zmo M5 B_b0
  replace B_b1:=zmo M5 B_b1
  have B_b2:=zmb M5
  replace H:=Lib.hid (H.out.ext M5.out.ext)
  replace EW:=zet EW M5
  have c2:=cell_of (i:=3) B_b2.out rfl
  have c18:=cell_of (i:=18) B_b0.out rfl
  go_wp2_with ((with_reducible refine zst (L:=[44,41,31,100]) ?_ ?_); exact rfl)
  unfold Hid
  clear c18 c2
  refine wpList_storeP rfl 3 (.tmp 22) (.tmp 21) rfl b0 17 rfl [I 3] (rfl) B_b0 rfl (by kernel_rfl) rfl [.slice ca sc.length cc,.slice ua su.length uc,.slice aa sa.length ac,.slice pa sp.length pc,I gen,.slice xa bl.length xc,.bool busy,I nc,I nt,I nk,I na,I no,I nn,.slice la pl.length lc,I se,I sn,.bool false,I 3,I 3,.slice ka cls.length kc] rfl (fun w6_ M6=>?_)
  replace B_b0:=zwb M6
  replace B_b1:=zwg M6 B_b1 D_b0_b1
  replace B_b2:=zwg M6 B_b2 D_b0_b2
  replace H:=Lib.hid (M6.out.rdM H.out N_b0.out)
  replace EW:=zwe M6 EW O_b0
  have c4:=cell_of (i:=4) B_b0.out rfl
  go_wp2_with ((with_reducible refine zst (L:=[44,41,31,100]) ?_ ?_); exact rfl)
  unfold Hid
  clear c4
  refine wpList_buildB rfl 41 #[(0,.tmp 25)] rfl #[I gen,.slice none 0 0,.bool false,I 0,I 0,I 0,I 0,I 0,I 0,.slice none 0 0,I 0,I 0] (by kernel_rfl) (fun v26 H_v26=>?_)
  go_wp2_with ((with_reducible refine zst (L:=[44,41,31,100]) ?_ ?_); exact rfl)
  unfold Hid
  refine wpList_storeP rfl 41 (.tmp 27) (.tmp 26) rfl b0 4 rfl _ (zcv H_v26) B_b0 rfl (by kernel_rfl) rfl [.slice ca sc.length cc,.slice ua su.length uc,.slice aa sa.length ac,.slice pa sp.length pc,I gen,.slice none 0 0,.bool false,I 0,I 0,I 0,I 0,I 0,I 0,.slice none 0 0,I 0,I 0,.bool false,I 3,I 3,.slice ka cls.length kc] rfl (fun w7_ M7=>?_)
  replace B_b0:=zwb M7
  replace B_b1:=zwg M7 B_b1 D_b0_b1
  replace B_b2:=zwg M7 B_b2 D_b0_b2
  replace H:=Lib.hid (M7.out.rdM H.out N_b0.out)
  replace EW:=zwe M7 EW O_b0
  go_wp2_with ((with_reducible refine zst (L:=[44,41,31,100]) ?_ ?_); exact rfl)
  unfold Hid
  refine wpList_loadW rfl 44 (.tmp 1) rfl b0 rfl B_b0 Tryz.underlying44 (by kernel_rfl) (fun v28 H_v28=>?_)
  go_wp2_with ((with_reducible refine zst (L:=[44,41,31,100]) ?_ ?_); exact rfl)
  unfold Hid
  refine wpList_storeW rfl 44 (.tmp 2) (.tmp 28) rfl b1 rfl _ (zcv H_v28) B_b1 rfl (by kernel_rfl) rfl (fun w8_ M8=>?_)
  replace B_b0:=zwl M8 B_b0 D_b0_b1
  replace B_b1:=zwb M8
  replace B_b2:=zwg M8 B_b2 D_b1_b2
  replace H:=Lib.hid (M8.out.rdM H.out N_b1.out)
  replace EW:=zwe M8 EW O_b1
  go_wp2
  have z0:=run_box (P:=Tryz.prog) 44 B_b1.out Tryz.underlying44 (by kernel_rfl)
  refine bodyPost_ret (by simp [results,Tryz.results48,asAddr,z0]; rfl) rfl ?_
  exact ⟨_,rfl,EW.out,Rd.widen (A:=B) (tupE_rd (RdM.mc (m:=⟨⟨sc,su,sa,sp⟩,idleSv gen [],false,3,3,cls⟩) ⟨H.out.cells,H.out.undo,H.out.answers,H.out.past,Rd.all fun w=>RowOf.nil w,Rd.all fun w=>writes_nil w,H.out.clients⟩)) (fun k _ h=>HK.out.2.2.2 k h)⟩
 ·have hX : fallM ⟨⟨sc,su,sa,sp⟩,⟨gen,bl,busy,⟨nc,nt,⟨nk,na,no,nn⟩⟩,pl,⟨se,sn⟩⟩,true,pause,3,cls⟩ = (⟨⟨sc,su,sa,sp⟩,idleSv gen [],false,3,4,cls⟩,0):=rfl
  rw [hX]
  clear hX
  go_enter Tryz.func48,Tryz.ntmps48
  go_wp2_with ((with_reducible refine zst (L:=[44,41,31,100]) ?_ ?_); exact rfl)
  unfold Hid
  refine wpList_boxB rfl 44 (.tmp 0) rfl #[.slice ca sc.length cc,.slice ua su.length uc,.slice aa sa.length ac,.slice pa sp.length pc,I gen,.slice xa bl.length xc,.bool busy,I nc,I nt,I nk,I na,I no,I nn,.slice la pl.length lc,I se,I sn,.bool true,I pause,I 3,.slice ka cls.length kc] rfl (fun b0 w1_ M1=>?_)
  have B_b0:=zmb M1
  replace H:=Lib.hid (H.out.ext M1.out.ext)
  replace EW:=zet EW M1
  go_wp2_with ((with_reducible refine zst (L:=[44,41,31,100]) ?_ ?_); exact rfl)
  unfold Hid
  refine wpList_allocB rfl 44 #[.slice none 0 0,.slice none 0 0,.slice none 0 0,.slice none 0 0,I 0,.slice none 0 0,.bool false,I 0,I 0,I 0,I 0,I 0,I 0,.slice none 0 0,I 0,I 0,.bool false,I 0,I 0,.slice none 0 0] (by kernel_rfl) (fun b1 w2_ M2=>?_)
  have D_b0_b1:=zld B_b0 M2
  replace B_b0:=zmo M2 B_b0
  have B_b1:=zmb M2
  replace H:=Lib.hid (H.out.ext M2.out.ext)
  replace EW:=zet EW M2
  have A_b0 : Hid (b0 = w.heap.size + 0):=by unfold Hid; have q0:=M1.out.at_; have r0:=M1.out.size; omega
  have N_b0:=znb HK A_b0 (by decide)
  have O_b0:=zob A_b0
  have A_b1 : Hid (b1 = w.heap.size + 1):=by unfold Hid; have q0:=M1.out.at_; have r0:=M1.out.size; have q1:=M2.out.at_; have r1:=M2.out.size; omega
  have N_b1:=znb HK A_b1 (by decide)
  have O_b1:=zob A_b1
  have c16:=cell_of (i:=16) B_b0.out rfl
  have c18:=cell_of (i:=18) B_b0.out rfl
  go_wp2_with ((with_reducible refine zst (L:=[44,41,31,100]) ?_ ?_); exact rfl)
  unfold Hid
  clear c16 c18
  refine wpList_storeP rfl 3 (.tmp 15) (.tmp 14) rfl b0 18 rfl [I 4] (rfl) B_b0 rfl (by kernel_rfl) rfl [.slice ca sc.length cc,.slice ua su.length uc,.slice aa sa.length ac,.slice pa sp.length pc,I gen,.slice xa bl.length xc,.bool busy,I nc,I nt,I nk,I na,I no,I nn,.slice la pl.length lc,I se,I sn,.bool true,I pause,I 4,.slice ka cls.length kc] rfl (fun w3_ M3=>?_)
  replace B_b0:=zwb M3
  replace B_b1:=zwg M3 B_b1 D_b0_b1
  replace H:=Lib.hid (M3.out.rdM H.out N_b0.out)
  replace EW:=zwe M3 EW O_b0
  go_wp2_with ((with_reducible refine zst (L:=[44,41,31,100]) ?_ ?_); exact rfl)
  unfold Hid
  refine wpList_storeP rfl 4 (.tmp 16) (.const (.bool false)) rfl b0 16 rfl [.bool false] (rfl) B_b0 rfl (by kernel_rfl) rfl [.slice ca sc.length cc,.slice ua su.length uc,.slice aa sa.length ac,.slice pa sp.length pc,I gen,.slice xa bl.length xc,.bool busy,I nc,I nt,I nk,I na,I no,I nn,.slice la pl.length lc,I se,I sn,.bool false,I pause,I 4,.slice ka cls.length kc] rfl (fun w4_ M4=>?_)
  replace B_b0:=zwb M4
  replace B_b1:=zwg M4 B_b1 D_b0_b1
  replace H:=Lib.hid (M4.out.rdM H.out N_b0.out)
  replace EW:=zwe M4 EW O_b0
  go_wp2_with ((with_reducible refine zst (L:=[44,41,31,100]) ?_ ?_); exact rfl)
  unfold Hid
  refine wpList_litB rfl 3 7 #[I 1,I 1,I 2,I 3,I 3,I 3,I 3] (by kernel_rfl) (fun b2 w5_ M5=>?_)
  have D_b0_b2:=zld B_b0 M5
  have D_b1_b2:=zld B_b1 M5
  replace B_b0:=zmo M5 B_b0
  replace B_b1:=zmo M5 B_b1
  have B_b2:=zmb M5
  replace H:=Lib.hid (H.out.ext M5.out.ext)
  replace EW:=zet EW M5
  have c2:=cell_of (i:=4) B_b2.out rfl
  have c18:=cell_of (i:=18) B_b0.out rfl
  go_wp2_with ((with_reducible refine zst (L:=[44,41,31,100]) ?_ ?_); exact rfl)
  unfold Hid
  clear c18 c2
  refine wpList_storeP rfl 3 (.tmp 22) (.tmp 21) rfl b0 17 rfl [I 3] (rfl) B_b0 rfl (by kernel_rfl) rfl [.slice ca sc.length cc,.slice ua su.length uc,.slice aa sa.length ac,.slice pa sp.length pc,I gen,.slice xa bl.length xc,.bool busy,I nc,I nt,I nk,I na,I no,I nn,.slice la pl.length lc,I se,I sn,.bool false,I 3,I 4,.slice ka cls.length kc] rfl (fun w6_ M6=>?_)
  replace B_b0:=zwb M6
  replace B_b1:=zwg M6 B_b1 D_b0_b1
  replace B_b2:=zwg M6 B_b2 D_b0_b2
  replace H:=Lib.hid (M6.out.rdM H.out N_b0.out)
  replace EW:=zwe M6 EW O_b0
  have c4:=cell_of (i:=4) B_b0.out rfl
  go_wp2_with ((with_reducible refine zst (L:=[44,41,31,100]) ?_ ?_); exact rfl)
  unfold Hid
  clear c4
  refine wpList_buildB rfl 41 #[(0,.tmp 25)] rfl #[I gen,.slice none 0 0,.bool false,I 0,I 0,I 0,I 0,I 0,I 0,.slice none 0 0,I 0,I 0] (by kernel_rfl) (fun v26 H_v26=>?_)
  go_wp2_with ((with_reducible refine zst (L:=[44,41,31,100]) ?_ ?_); exact rfl)
  unfold Hid
  refine wpList_storeP rfl 41 (.tmp 27) (.tmp 26) rfl b0 4 rfl _ (zcv H_v26) B_b0 rfl (by kernel_rfl) rfl [.slice ca sc.length cc,.slice ua su.length uc,.slice aa sa.length ac,.slice pa sp.length pc,I gen,.slice none 0 0,.bool false,I 0,I 0,I 0,I 0,I 0,I 0,.slice none 0 0,I 0,I 0,.bool false,I 3,I 4,.slice ka cls.length kc] rfl (fun w7_ M7=>?_)
  replace B_b0:=zwb M7
  replace B_b1:=zwg M7 B_b1 D_b0_b1
  replace B_b2:=zwg M7 B_b2 D_b0_b2
  replace H:=Lib.hid (M7.out.rdM H.out N_b0.out)
  replace EW:=zwe M7 EW O_b0
  go_wp2_with ((with_reducible refine zst (L:=[44,41,31,100]) ?_ ?_); exact rfl)
  unfold Hid
  refine wpList_loadW rfl 44 (.tmp 1) rfl b0 rfl B_b0 Tryz.underlying44 (by kernel_rfl) (fun v28 H_v28=>?_)
  go_wp2_with ((with_reducible refine zst (L:=[44,41,31,100]) ?_ ?_); exact rfl)
  unfold Hid
  refine wpList_storeW rfl 44 (.tmp 2) (.tmp 28) rfl b1 rfl _ (zcv H_v28) B_b1 rfl (by kernel_rfl) rfl (fun w8_ M8=>?_)
  replace B_b0:=zwl M8 B_b0 D_b0_b1
  replace B_b1:=zwb M8
  replace B_b2:=zwg M8 B_b2 D_b1_b2
  replace H:=Lib.hid (M8.out.rdM H.out N_b1.out)
  replace EW:=zwe M8 EW O_b1
  go_wp2
  have z0:=run_box (P:=Tryz.prog) 44 B_b1.out Tryz.underlying44 (by kernel_rfl)
  refine bodyPost_ret (by simp [results,Tryz.results48,asAddr,z0]; rfl) rfl ?_
  exact ⟨_,rfl,EW.out,Rd.widen (A:=B) (tupE_rd (RdM.mc (m:=⟨⟨sc,su,sa,sp⟩,idleSv gen [],false,3,4,cls⟩) ⟨H.out.cells,H.out.undo,H.out.answers,H.out.past,Rd.all fun w=>RowOf.nil w,Rd.all fun w=>writes_nil w,H.out.clients⟩)) (fun k _ h=>HK.out.2.2.2 k h)⟩
 ·have hX : fallM ⟨⟨sc,su,sa,sp⟩,⟨gen,bl,busy,⟨nc,nt,⟨nk,na,no,nn⟩⟩,pl,⟨se,sn⟩⟩,true,pause,4,cls⟩ = (⟨⟨sc,su,sa,sp⟩,idleSv gen [],false,3,5,cls⟩,0):=rfl
  rw [hX]
  clear hX
  go_enter Tryz.func48,Tryz.ntmps48
  go_wp2_with ((with_reducible refine zst (L:=[44,41,31,100]) ?_ ?_); exact rfl)
  unfold Hid
  refine wpList_boxB rfl 44 (.tmp 0) rfl #[.slice ca sc.length cc,.slice ua su.length uc,.slice aa sa.length ac,.slice pa sp.length pc,I gen,.slice xa bl.length xc,.bool busy,I nc,I nt,I nk,I na,I no,I nn,.slice la pl.length lc,I se,I sn,.bool true,I pause,I 4,.slice ka cls.length kc] rfl (fun b0 w1_ M1=>?_)
  have B_b0:=zmb M1
  replace H:=Lib.hid (H.out.ext M1.out.ext)
  replace EW:=zet EW M1
  go_wp2_with ((with_reducible refine zst (L:=[44,41,31,100]) ?_ ?_); exact rfl)
  unfold Hid
  refine wpList_allocB rfl 44 #[.slice none 0 0,.slice none 0 0,.slice none 0 0,.slice none 0 0,I 0,.slice none 0 0,.bool false,I 0,I 0,I 0,I 0,I 0,I 0,.slice none 0 0,I 0,I 0,.bool false,I 0,I 0,.slice none 0 0] (by kernel_rfl) (fun b1 w2_ M2=>?_)
  have D_b0_b1:=zld B_b0 M2
  replace B_b0:=zmo M2 B_b0
  have B_b1:=zmb M2
  replace H:=Lib.hid (H.out.ext M2.out.ext)
  replace EW:=zet EW M2
  have A_b0 : Hid (b0 = w.heap.size + 0):=by unfold Hid; have q0:=M1.out.at_; have r0:=M1.out.size; omega
  have N_b0:=znb HK A_b0 (by decide)
  have O_b0:=zob A_b0
  have A_b1 : Hid (b1 = w.heap.size + 1):=by unfold Hid; have q0:=M1.out.at_; have r0:=M1.out.size; have q1:=M2.out.at_; have r1:=M2.out.size; omega
  have N_b1:=znb HK A_b1 (by decide)
  have O_b1:=zob A_b1
  have c16:=cell_of (i:=16) B_b0.out rfl
  have c18:=cell_of (i:=18) B_b0.out rfl
  go_wp2_with ((with_reducible refine zst (L:=[44,41,31,100]) ?_ ?_); exact rfl)
  unfold Hid
  clear c16 c18
  refine wpList_storeP rfl 3 (.tmp 15) (.tmp 14) rfl b0 18 rfl [I 5] (rfl) B_b0 rfl (by kernel_rfl) rfl [.slice ca sc.length cc,.slice ua su.length uc,.slice aa sa.length ac,.slice pa sp.length pc,I gen,.slice xa bl.length xc,.bool busy,I nc,I nt,I nk,I na,I no,I nn,.slice la pl.length lc,I se,I sn,.bool true,I pause,I 5,.slice ka cls.length kc] rfl (fun w3_ M3=>?_)
  replace B_b0:=zwb M3
  replace B_b1:=zwg M3 B_b1 D_b0_b1
  replace H:=Lib.hid (M3.out.rdM H.out N_b0.out)
  replace EW:=zwe M3 EW O_b0
  go_wp2_with ((with_reducible refine zst (L:=[44,41,31,100]) ?_ ?_); exact rfl)
  unfold Hid
  refine wpList_storeP rfl 4 (.tmp 16) (.const (.bool false)) rfl b0 16 rfl [.bool false] (rfl) B_b0 rfl (by kernel_rfl) rfl [.slice ca sc.length cc,.slice ua su.length uc,.slice aa sa.length ac,.slice pa sp.length pc,I gen,.slice xa bl.length xc,.bool busy,I nc,I nt,I nk,I na,I no,I nn,.slice la pl.length lc,I se,I sn,.bool false,I pause,I 5,.slice ka cls.length kc] rfl (fun w4_ M4=>?_)
  replace B_b0:=zwb M4
  replace B_b1:=zwg M4 B_b1 D_b0_b1
  replace H:=Lib.hid (M4.out.rdM H.out N_b0.out)
  replace EW:=zwe M4 EW O_b0
  go_wp2_with ((with_reducible refine zst (L:=[44,41,31,100]) ?_ ?_); exact rfl)
  unfold Hid
  refine wpList_litB rfl 3 7 #[I 1,I 1,I 2,I 3,I 3,I 3,I 3] (by kernel_rfl) (fun b2 w5_ M5=>?_)
  have D_b0_b2:=zld B_b0 M5
  have D_b1_b2:=zld B_b1 M5
  replace B_b0:=zmo M5 B_b0
  replace B_b1:=zmo M5 B_b1
  have B_b2:=zmb M5
  replace H:=Lib.hid (H.out.ext M5.out.ext)
  replace EW:=zet EW M5
  have c2:=cell_of (i:=5) B_b2.out rfl
  have c18:=cell_of (i:=18) B_b0.out rfl
  go_wp2_with ((with_reducible refine zst (L:=[44,41,31,100]) ?_ ?_); exact rfl)
  unfold Hid
  clear c18 c2
  refine wpList_storeP rfl 3 (.tmp 22) (.tmp 21) rfl b0 17 rfl [I 3] (rfl) B_b0 rfl (by kernel_rfl) rfl [.slice ca sc.length cc,.slice ua su.length uc,.slice aa sa.length ac,.slice pa sp.length pc,I gen,.slice xa bl.length xc,.bool busy,I nc,I nt,I nk,I na,I no,I nn,.slice la pl.length lc,I se,I sn,.bool false,I 3,I 5,.slice ka cls.length kc] rfl (fun w6_ M6=>?_)
  replace B_b0:=zwb M6
  replace B_b1:=zwg M6 B_b1 D_b0_b1
  replace B_b2:=zwg M6 B_b2 D_b0_b2
  replace H:=Lib.hid (M6.out.rdM H.out N_b0.out)
  replace EW:=zwe M6 EW O_b0
  have c4:=cell_of (i:=4) B_b0.out rfl
  go_wp2_with ((with_reducible refine zst (L:=[44,41,31,100]) ?_ ?_); exact rfl)
  unfold Hid
  clear c4
  refine wpList_buildB rfl 41 #[(0,.tmp 25)] rfl #[I gen,.slice none 0 0,.bool false,I 0,I 0,I 0,I 0,I 0,I 0,.slice none 0 0,I 0,I 0] (by kernel_rfl) (fun v26 H_v26=>?_)
  go_wp2_with ((with_reducible refine zst (L:=[44,41,31,100]) ?_ ?_); exact rfl)
  unfold Hid
  refine wpList_storeP rfl 41 (.tmp 27) (.tmp 26) rfl b0 4 rfl _ (zcv H_v26) B_b0 rfl (by kernel_rfl) rfl [.slice ca sc.length cc,.slice ua su.length uc,.slice aa sa.length ac,.slice pa sp.length pc,I gen,.slice none 0 0,.bool false,I 0,I 0,I 0,I 0,I 0,I 0,.slice none 0 0,I 0,I 0,.bool false,I 3,I 5,.slice ka cls.length kc] rfl (fun w7_ M7=>?_)
  replace B_b0:=zwb M7
  replace B_b1:=zwg M7 B_b1 D_b0_b1
  replace B_b2:=zwg M7 B_b2 D_b0_b2
  replace H:=Lib.hid (M7.out.rdM H.out N_b0.out)
  replace EW:=zwe M7 EW O_b0
  go_wp2_with ((with_reducible refine zst (L:=[44,41,31,100]) ?_ ?_); exact rfl)
  unfold Hid
  refine wpList_loadW rfl 44 (.tmp 1) rfl b0 rfl B_b0 Tryz.underlying44 (by kernel_rfl) (fun v28 H_v28=>?_)
  go_wp2_with ((with_reducible refine zst (L:=[44,41,31,100]) ?_ ?_); exact rfl)
  unfold Hid
  refine wpList_storeW rfl 44 (.tmp 2) (.tmp 28) rfl b1 rfl _ (zcv H_v28) B_b1 rfl (by kernel_rfl) rfl (fun w8_ M8=>?_)
  replace B_b0:=zwl M8 B_b0 D_b0_b1
  replace B_b1:=zwb M8
  replace B_b2:=zwg M8 B_b2 D_b1_b2
  replace H:=Lib.hid (M8.out.rdM H.out N_b1.out)
  replace EW:=zwe M8 EW O_b1
  go_wp2
  have z0:=run_box (P:=Tryz.prog) 44 B_b1.out Tryz.underlying44 (by kernel_rfl)
  refine bodyPost_ret (by simp [results,Tryz.results48,asAddr,z0]; rfl) rfl ?_
  exact ⟨_,rfl,EW.out,Rd.widen (A:=B) (tupE_rd (RdM.mc (m:=⟨⟨sc,su,sa,sp⟩,idleSv gen [],false,3,5,cls⟩) ⟨H.out.cells,H.out.undo,H.out.answers,H.out.past,Rd.all fun w=>RowOf.nil w,Rd.all fun w=>writes_nil w,H.out.clients⟩)) (fun k _ h=>HK.out.2.2.2 k h)⟩
 ·have hX : fallM ⟨⟨sc,su,sa,sp⟩,⟨gen,bl,busy,⟨nc,nt,⟨nk,na,no,nn⟩⟩,pl,⟨se,sn⟩⟩,true,pause,5,cls⟩ = (⟨⟨sc,su,sa,sp⟩,idleSv gen [],false,3,6,cls⟩,0):=rfl
  rw [hX]
  clear hX
  go_enter Tryz.func48,Tryz.ntmps48
  go_wp2_with ((with_reducible refine zst (L:=[44,41,31,100]) ?_ ?_); exact rfl)
  unfold Hid
  refine wpList_boxB rfl 44 (.tmp 0) rfl #[.slice ca sc.length cc,.slice ua su.length uc,.slice aa sa.length ac,.slice pa sp.length pc,I gen,.slice xa bl.length xc,.bool busy,I nc,I nt,I nk,I na,I no,I nn,.slice la pl.length lc,I se,I sn,.bool true,I pause,I 5,.slice ka cls.length kc] rfl (fun b0 w1_ M1=>?_)
  have B_b0:=zmb M1
  replace H:=Lib.hid (H.out.ext M1.out.ext)
  replace EW:=zet EW M1
  go_wp2_with ((with_reducible refine zst (L:=[44,41,31,100]) ?_ ?_); exact rfl)
  unfold Hid
  refine wpList_allocB rfl 44 #[.slice none 0 0,.slice none 0 0,.slice none 0 0,.slice none 0 0,I 0,.slice none 0 0,.bool false,I 0,I 0,I 0,I 0,I 0,I 0,.slice none 0 0,I 0,I 0,.bool false,I 0,I 0,.slice none 0 0] (by kernel_rfl) (fun b1 w2_ M2=>?_)
  have D_b0_b1:=zld B_b0 M2
  replace B_b0:=zmo M2 B_b0
  have B_b1:=zmb M2
  replace H:=Lib.hid (H.out.ext M2.out.ext)
  replace EW:=zet EW M2
  have A_b0 : Hid (b0 = w.heap.size + 0):=by unfold Hid; have q0:=M1.out.at_; have r0:=M1.out.size; omega
  have N_b0:=znb HK A_b0 (by decide)
  have O_b0:=zob A_b0
  have A_b1 : Hid (b1 = w.heap.size + 1):=by unfold Hid; have q0:=M1.out.at_; have r0:=M1.out.size; have q1:=M2.out.at_; have r1:=M2.out.size; omega
  have N_b1:=znb HK A_b1 (by decide)
  have O_b1:=zob A_b1
  have c16:=cell_of (i:=16) B_b0.out rfl
  have c18:=cell_of (i:=18) B_b0.out rfl
  go_wp2_with ((with_reducible refine zst (L:=[44,41,31,100]) ?_ ?_); exact rfl)
  unfold Hid
  clear c16 c18
  refine wpList_storeP rfl 3 (.tmp 15) (.tmp 14) rfl b0 18 rfl [I 6] (rfl) B_b0 rfl (by kernel_rfl) rfl [.slice ca sc.length cc,.slice ua su.length uc,.slice aa sa.length ac,.slice pa sp.length pc,I gen,.slice xa bl.length xc,.bool busy,I nc,I nt,I nk,I na,I no,I nn,.slice la pl.length lc,I se,I sn,.bool true,I pause,I 6,.slice ka cls.length kc] rfl (fun w3_ M3=>?_)
  replace B_b0:=zwb M3
  replace B_b1:=zwg M3 B_b1 D_b0_b1
  replace H:=Lib.hid (M3.out.rdM H.out N_b0.out)
  replace EW:=zwe M3 EW O_b0
  go_wp2_with ((with_reducible refine zst (L:=[44,41,31,100]) ?_ ?_); exact rfl)
  unfold Hid
  refine wpList_storeP rfl 4 (.tmp 16) (.const (.bool false)) rfl b0 16 rfl [.bool false] (rfl) B_b0 rfl (by kernel_rfl) rfl [.slice ca sc.length cc,.slice ua su.length uc,.slice aa sa.length ac,.slice pa sp.length pc,I gen,.slice xa bl.length xc,.bool busy,I nc,I nt,I nk,I na,I no,I nn,.slice la pl.length lc,I se,I sn,.bool false,I pause,I 6,.slice ka cls.length kc] rfl (fun w4_ M4=>?_)
  replace B_b0:=zwb M4
  replace B_b1:=zwg M4 B_b1 D_b0_b1
  replace H:=Lib.hid (M4.out.rdM H.out N_b0.out)
  replace EW:=zwe M4 EW O_b0
  go_wp2_with ((with_reducible refine zst (L:=[44,41,31,100]) ?_ ?_); exact rfl)
  unfold Hid
  refine wpList_litB rfl 3 7 #[I 1,I 1,I 2,I 3,I 3,I 3,I 3] (by kernel_rfl) (fun b2 w5_ M5=>?_)
  have D_b0_b2:=zld B_b0 M5
  have D_b1_b2:=zld B_b1 M5
  replace B_b0:=zmo M5 B_b0
  replace B_b1:=zmo M5 B_b1
  have B_b2:=zmb M5
  replace H:=Lib.hid (H.out.ext M5.out.ext)
  replace EW:=zet EW M5
  have c2:=cell_of (i:=6) B_b2.out rfl
  have c18:=cell_of (i:=18) B_b0.out rfl
  go_wp2_with ((with_reducible refine zst (L:=[44,41,31,100]) ?_ ?_); exact rfl)
  unfold Hid
  clear c18 c2
  refine wpList_storeP rfl 3 (.tmp 22) (.tmp 21) rfl b0 17 rfl [I 3] (rfl) B_b0 rfl (by kernel_rfl) rfl [.slice ca sc.length cc,.slice ua su.length uc,.slice aa sa.length ac,.slice pa sp.length pc,I gen,.slice xa bl.length xc,.bool busy,I nc,I nt,I nk,I na,I no,I nn,.slice la pl.length lc,I se,I sn,.bool false,I 3,I 6,.slice ka cls.length kc] rfl (fun w6_ M6=>?_)
  replace B_b0:=zwb M6
  replace B_b1:=zwg M6 B_b1 D_b0_b1
  replace B_b2:=zwg M6 B_b2 D_b0_b2
  replace H:=Lib.hid (M6.out.rdM H.out N_b0.out)
  replace EW:=zwe M6 EW O_b0
  have c4:=cell_of (i:=4) B_b0.out rfl
  go_wp2_with ((with_reducible refine zst (L:=[44,41,31,100]) ?_ ?_); exact rfl)
  unfold Hid
  clear c4
  refine wpList_buildB rfl 41 #[(0,.tmp 25)] rfl #[I gen,.slice none 0 0,.bool false,I 0,I 0,I 0,I 0,I 0,I 0,.slice none 0 0,I 0,I 0] (by kernel_rfl) (fun v26 H_v26=>?_)
  go_wp2_with ((with_reducible refine zst (L:=[44,41,31,100]) ?_ ?_); exact rfl)
  unfold Hid
  refine wpList_storeP rfl 41 (.tmp 27) (.tmp 26) rfl b0 4 rfl _ (zcv H_v26) B_b0 rfl (by kernel_rfl) rfl [.slice ca sc.length cc,.slice ua su.length uc,.slice aa sa.length ac,.slice pa sp.length pc,I gen,.slice none 0 0,.bool false,I 0,I 0,I 0,I 0,I 0,I 0,.slice none 0 0,I 0,I 0,.bool false,I 3,I 6,.slice ka cls.length kc] rfl (fun w7_ M7=>?_)
  replace B_b0:=zwb M7
  replace B_b1:=zwg M7 B_b1 D_b0_b1
  replace B_b2:=zwg M7 B_b2 D_b0_b2
  replace H:=Lib.hid (M7.out.rdM H.out N_b0.out)
  replace EW:=zwe M7 EW O_b0
  go_wp2_with ((with_reducible refine zst (L:=[44,41,31,100]) ?_ ?_); exact rfl)
  unfold Hid
  refine wpList_loadW rfl 44 (.tmp 1) rfl b0 rfl B_b0 Tryz.underlying44 (by kernel_rfl) (fun v28 H_v28=>?_)
  go_wp2_with ((with_reducible refine zst (L:=[44,41,31,100]) ?_ ?_); exact rfl)
  unfold Hid
  refine wpList_storeW rfl 44 (.tmp 2) (.tmp 28) rfl b1 rfl _ (zcv H_v28) B_b1 rfl (by kernel_rfl) rfl (fun w8_ M8=>?_)
  replace B_b0:=zwl M8 B_b0 D_b0_b1
  replace B_b1:=zwb M8
  replace B_b2:=zwg M8 B_b2 D_b1_b2
  replace H:=Lib.hid (M8.out.rdM H.out N_b1.out)
  replace EW:=zwe M8 EW O_b1
  go_wp2
  have z0:=run_box (P:=Tryz.prog) 44 B_b1.out Tryz.underlying44 (by kernel_rfl)
  refine bodyPost_ret (by simp [results,Tryz.results48,asAddr,z0]; rfl) rfl ?_
  exact ⟨_,rfl,EW.out,Rd.widen (A:=B) (tupE_rd (RdM.mc (m:=⟨⟨sc,su,sa,sp⟩,idleSv gen [],false,3,6,cls⟩) ⟨H.out.cells,H.out.undo,H.out.answers,H.out.past,Rd.all fun w=>RowOf.nil w,Rd.all fun w=>writes_nil w,H.out.clients⟩)) (fun k _ h=>HK.out.2.2.2 k h)⟩

set_option maxHeartbeats 400000 in
theorem refTick_keeps (m : Mc) (c u a p box plan cl : Value) (w : World) (A : Nat → Prop) (h : RdM A w m c u a p box plan cl) (hr : m.store.cells.length * 8 ≤ 140737488355328) (hg : 0 ≤ m.server.gen ∧ m.server.gen ≤ 1000000) (hpz : 0 ≤ m.pause ∧ m.pause ≤ 1000000) :
  Keeps Tryz.prog 49 #[.agg (cells20 m c u a p box plan cl).toArray] w A (fun r w'=>Agg elMc (tickM m) r w'):=by
 unfold Keeps
 obtain ⟨ca,cc,ua,uc,aa,ac,pa,pc,xa,xc,la,lc,ka,kc,rfl,rfl,rfl,rfl,rfl,rfl,rfl⟩:=h.slices
 obtain ⟨⟨sc,su,sa,sp⟩,⟨gen,bl,busy,⟨nc,nt,⟨nk,na,no,nn⟩⟩,pl,⟨se,sn⟩⟩,up,pause,falls,cls⟩:=m
 simp only [cells20] at *
 have H:=Lib.hid h
 clear h
 have EW:=Lib.hid (Ext.refl w)
 obtain ⟨B,hB⟩:=away A w.heap.size 2
 have HK:=Lib.hid hB
 clear hB
 replace H:=Lib.hid (H.out.widen HK.out.1)
 cases up
 case true =>
  have hX : tickM ⟨⟨sc,su,sa,sp⟩,⟨gen,bl,busy,⟨nc,nt,⟨nk,na,no,nn⟩⟩,pl,⟨se,sn⟩⟩,true,pause,falls,cls⟩ = ⟨⟨sc,su,sa,sp⟩,⟨gen,bl,busy,⟨nc,nt,⟨nk,na,no,nn⟩⟩,pl,⟨se,sn⟩⟩,true,pause,falls,cls⟩:=rfl
  rw [hX]
  clear hX
  go_enter Tryz.func49,Tryz.ntmps49
  go_wp2_with ((with_reducible refine zst (L:=[44,41,31,100]) ?_ ?_); exact rfl)
  unfold Hid
  refine wpList_boxB rfl 44 (.tmp 0) rfl #[.slice ca sc.length cc,.slice ua su.length uc,.slice aa sa.length ac,.slice pa sp.length pc,I gen,.slice xa bl.length xc,.bool busy,I nc,I nt,I nk,I na,I no,I nn,.slice la pl.length lc,I se,I sn,.bool true,I pause,I falls,.slice ka cls.length kc] rfl (fun b0 w1_ M1=>?_)
  have B_b0:=zmb M1
  replace H:=Lib.hid (H.out.ext M1.out.ext)
  replace EW:=zet EW M1
  go_wp2_with ((with_reducible refine zst (L:=[44,41,31,100]) ?_ ?_); exact rfl)
  unfold Hid
  refine wpList_allocB rfl 44 #[.slice none 0 0,.slice none 0 0,.slice none 0 0,.slice none 0 0,I 0,.slice none 0 0,.bool false,I 0,I 0,I 0,I 0,I 0,I 0,.slice none 0 0,I 0,I 0,.bool false,I 0,I 0,.slice none 0 0] (by kernel_rfl) (fun b1 w2_ M2=>?_)
  have D_b0_b1:=zld B_b0 M2
  replace B_b0:=zmo M2 B_b0
  have B_b1:=zmb M2
  replace H:=Lib.hid (H.out.ext M2.out.ext)
  replace EW:=zet EW M2
  have A_b0 : Hid (b0 = w.heap.size + 0):=by unfold Hid; have q0:=M1.out.at_; have r0:=M1.out.size; omega
  have N_b0:=znb HK A_b0 (by decide)
  have O_b0:=zob A_b0
  have A_b1 : Hid (b1 = w.heap.size + 1):=by unfold Hid; have q0:=M1.out.at_; have r0:=M1.out.size; have q1:=M2.out.at_; have r1:=M2.out.size; omega
  have N_b1:=znb HK A_b1 (by decide)
  have O_b1:=zob A_b1
  have c16:=cell_of (i:=16) B_b0.out rfl
  go_wp2_with ((with_reducible refine zst (L:=[44,41,31,100]) ?_ ?_); exact rfl)
  unfold Hid
  clear c16
  refine wpList_loadW rfl 44 (.tmp 1) rfl b0 rfl B_b0 Tryz.underlying44 (by kernel_rfl) (fun v26 H_v26=>?_)
  go_wp2_with ((with_reducible refine zst (L:=[44,41,31,100]) ?_ ?_); exact rfl)
  unfold Hid
  refine wpList_storeW rfl 44 (.tmp 2) (.tmp 26) rfl b1 rfl _ (zcv H_v26) B_b1 rfl (by kernel_rfl) rfl (fun w3_ M3=>?_)
  replace B_b0:=zwl M3 B_b0 D_b0_b1
  replace B_b1:=zwb M3
  replace H:=Lib.hid (M3.out.rdM H.out N_b1.out)
  replace EW:=zwe M3 EW O_b1
  go_wp2
  have z0:=run_box (P:=Tryz.prog) 44 B_b1.out Tryz.underlying44 (by kernel_rfl)
  refine bodyPost_ret (by simp [results,Tryz.results49,asAddr,z0,Act.put]; rfl) rfl ?_
  exact ⟨_,rfl,EW.out,Rd.widen (A:=B) (agg_rd (RdM.mc (m:=⟨⟨sc,su,sa,sp⟩,⟨gen,bl,busy,⟨nc,nt,⟨nk,na,no,nn⟩⟩,pl,⟨se,sn⟩⟩,true,pause,falls,cls⟩) H.out)) (fun k _ h=>HK.out.2.2.2 k h)⟩
 by_cases hp : 1 < pause
 case pos =>
  have hX : tickM ⟨⟨sc,su,sa,sp⟩,⟨gen,bl,busy,⟨nc,nt,⟨nk,na,no,nn⟩⟩,pl,⟨se,sn⟩⟩,false,pause,falls,cls⟩ = ⟨⟨sc,su,sa,sp⟩,⟨gen,bl,busy,⟨nc,nt,⟨nk,na,no,nn⟩⟩,pl,⟨se,sn⟩⟩,false,(pause - 1),falls,cls⟩:=by
   show (if (false = true) then _ else if 1 < pause then _ else _) = _
   rw [if_neg (by simp),if_pos hp]
  rw [hX]
  clear hX
  go_enter Tryz.func49,Tryz.ntmps49
  go_wp2_with ((with_reducible refine zst (L:=[44,41,31,100]) ?_ ?_); exact rfl)
  unfold Hid
  refine wpList_boxB rfl 44 (.tmp 0) rfl #[.slice ca sc.length cc,.slice ua su.length uc,.slice aa sa.length ac,.slice pa sp.length pc,I gen,.slice xa bl.length xc,.bool busy,I nc,I nt,I nk,I na,I no,I nn,.slice la pl.length lc,I se,I sn,.bool false,I pause,I falls,.slice ka cls.length kc] rfl (fun b0 w1_ M1=>?_)
  have B_b0:=zmb M1
  replace H:=Lib.hid (H.out.ext M1.out.ext)
  replace EW:=zet EW M1
  go_wp2_with ((with_reducible refine zst (L:=[44,41,31,100]) ?_ ?_); exact rfl)
  unfold Hid
  refine wpList_allocB rfl 44 #[.slice none 0 0,.slice none 0 0,.slice none 0 0,.slice none 0 0,I 0,.slice none 0 0,.bool false,I 0,I 0,I 0,I 0,I 0,I 0,.slice none 0 0,I 0,I 0,.bool false,I 0,I 0,.slice none 0 0] (by kernel_rfl) (fun b1 w2_ M2=>?_)
  have D_b0_b1:=zld B_b0 M2
  replace B_b0:=zmo M2 B_b0
  have B_b1:=zmb M2
  replace H:=Lib.hid (H.out.ext M2.out.ext)
  replace EW:=zet EW M2
  have A_b0 : Hid (b0 = w.heap.size + 0):=by unfold Hid; have q0:=M1.out.at_; have r0:=M1.out.size; omega
  have N_b0:=znb HK A_b0 (by decide)
  have O_b0:=zob A_b0
  have A_b1 : Hid (b1 = w.heap.size + 1):=by unfold Hid; have q0:=M1.out.at_; have r0:=M1.out.size; have q1:=M2.out.at_; have r1:=M2.out.size; omega
  have N_b1:=znb HK A_b1 (by decide)
  have O_b1:=zob A_b1
  have c16:=cell_of (i:=16) B_b0.out rfl
  have c17:=cell_of (i:=17) B_b0.out rfl
  go_wp2_with ((with_reducible refine zst (L:=[44,41,31,100]) ?_ ?_); exact rfl)
  unfold Hid
  clear c16 c17
  refine wpList_storeP rfl 3 (.tmp 25) (.tmp 24) rfl b0 17 rfl [I (pause - 1)] (rfl) B_b0 rfl (by kernel_rfl) rfl [.slice ca sc.length cc,.slice ua su.length uc,.slice aa sa.length ac,.slice pa sp.length pc,I gen,.slice xa bl.length xc,.bool busy,I nc,I nt,I nk,I na,I no,I nn,.slice la pl.length lc,I se,I sn,.bool false,I (pause - 1),I falls,.slice ka cls.length kc] rfl (fun w3_ M3=>?_)
  replace B_b0:=zwb M3
  replace B_b1:=zwg M3 B_b1 D_b0_b1
  replace H:=Lib.hid (M3.out.rdM H.out N_b0.out)
  replace EW:=zwe M3 EW O_b0
  go_wp2_with ((with_reducible refine zst (L:=[44,41,31,100]) ?_ ?_); exact rfl)
  unfold Hid
  refine wpList_loadW rfl 44 (.tmp 1) rfl b0 rfl B_b0 Tryz.underlying44 (by kernel_rfl) (fun v26 H_v26=>?_)
  go_wp2_with ((with_reducible refine zst (L:=[44,41,31,100]) ?_ ?_); exact rfl)
  unfold Hid
  refine wpList_storeW rfl 44 (.tmp 2) (.tmp 26) rfl b1 rfl _ (zcv H_v26) B_b1 rfl (by kernel_rfl) rfl (fun w4_ M4=>?_)
  replace B_b0:=zwl M4 B_b0 D_b0_b1
  replace B_b1:=zwb M4
  replace H:=Lib.hid (M4.out.rdM H.out N_b1.out)
  replace EW:=zwe M4 EW O_b1
  go_wp2
  have z0:=run_box (P:=Tryz.prog) 44 B_b1.out Tryz.underlying44 (by kernel_rfl)
  refine bodyPost_ret (by simp [results,Tryz.results49,asAddr,z0,Act.put]; rfl) rfl ?_
  exact ⟨_,rfl,EW.out,Rd.widen (A:=B) (agg_rd (RdM.mc (m:=⟨⟨sc,su,sa,sp⟩,⟨gen,bl,busy,⟨nc,nt,⟨nk,na,no,nn⟩⟩,pl,⟨se,sn⟩⟩,false,(pause - 1),falls,cls⟩) ⟨H.out.cells,H.out.undo,H.out.answers,H.out.past,H.out.box,H.out.plan,H.out.clients⟩)) (fun k _ h=>HK.out.2.2.2 k h)⟩
 have hX : tickM ⟨⟨sc,su,sa,sp⟩,⟨gen,bl,busy,⟨nc,nt,⟨nk,na,no,nn⟩⟩,pl,⟨se,sn⟩⟩,false,pause,falls,cls⟩ = ⟨backSt ⟨sc,su,sa,sp⟩,idleSv (gen + 1) [],true,0,falls,cls⟩:=by
  show (if (false = true) then _ else if 1 < pause then _ else _) = _
  rw [if_neg (by simp),if_neg hp]
 rw [hX]
 clear hX
 go_enter Tryz.func49,Tryz.ntmps49
 go_wp2_with ((with_reducible refine zst (L:=[44,41,31,100]) ?_ ?_); exact rfl)
 unfold Hid
 refine wpList_boxB rfl 44 (.tmp 0) rfl #[.slice ca sc.length cc,.slice ua su.length uc,.slice aa sa.length ac,.slice pa sp.length pc,I gen,.slice xa bl.length xc,.bool busy,I nc,I nt,I nk,I na,I no,I nn,.slice la pl.length lc,I se,I sn,.bool false,I pause,I falls,.slice ka cls.length kc] rfl (fun b0 w1_ M1=>?_)
 have B_b0:=zmb M1
 replace H:=Lib.hid (H.out.ext M1.out.ext)
 replace EW:=zet EW M1
 go_wp2_with ((with_reducible refine zst (L:=[44,41,31,100]) ?_ ?_); exact rfl)
 unfold Hid
 refine wpList_allocB rfl 44 #[.slice none 0 0,.slice none 0 0,.slice none 0 0,.slice none 0 0,I 0,.slice none 0 0,.bool false,I 0,I 0,I 0,I 0,I 0,I 0,.slice none 0 0,I 0,I 0,.bool false,I 0,I 0,.slice none 0 0] (by kernel_rfl) (fun b1 w2_ M2=>?_)
 have D_b0_b1:=zld B_b0 M2
 replace B_b0:=zmo M2 B_b0
 have B_b1:=zmb M2
 replace H:=Lib.hid (H.out.ext M2.out.ext)
 replace EW:=zet EW M2
 have A_b0 : Hid (b0 = w.heap.size + 0):=by unfold Hid; have q0:=M1.out.at_; have r0:=M1.out.size; omega
 have N_b0:=znb HK A_b0 (by decide)
 have O_b0:=zob A_b0
 have A_b1 : Hid (b1 = w.heap.size + 1):=by unfold Hid; have q0:=M1.out.at_; have r0:=M1.out.size; have q1:=M2.out.at_; have r1:=M2.out.size; omega
 have N_b1:=znb HK A_b1 (by decide)
 have O_b1:=zob A_b1
 have c16:=cell_of (i:=16) B_b0.out rfl
 have c17:=cell_of (i:=17) B_b0.out rfl
 go_wp2_with ((with_reducible refine zst (L:=[44,41,31,100]) ?_ ?_); exact rfl)
 unfold Hid
 clear c16 c17
 refine wpList_storeP rfl 4 (.tmp 3) (.const (.bool true)) rfl b0 16 rfl [.bool true] (rfl) B_b0 rfl (by kernel_rfl) rfl [.slice ca sc.length cc,.slice ua su.length uc,.slice aa sa.length ac,.slice pa sp.length pc,I gen,.slice xa bl.length xc,.bool busy,I nc,I nt,I nk,I na,I no,I nn,.slice la pl.length lc,I se,I sn,.bool true,I pause,I falls,.slice ka cls.length kc] rfl (fun w3_ M3=>?_)
 replace B_b0:=zwb M3
 replace B_b1:=zwg M3 B_b1 D_b0_b1
 replace H:=Lib.hid (M3.out.rdM H.out N_b0.out)
 replace EW:=zwe M3 EW O_b0
 go_wp2_with ((with_reducible refine zst (L:=[44,41,31,100]) ?_ ?_); exact rfl)
 unfold Hid
 refine wpList_storeP rfl 3 (.tmp 4) (.const (.int .i64 0)) rfl b0 17 rfl [I 0] (rfl) B_b0 rfl (by kernel_rfl) rfl [.slice ca sc.length cc,.slice ua su.length uc,.slice aa sa.length ac,.slice pa sp.length pc,I gen,.slice xa bl.length xc,.bool busy,I nc,I nt,I nk,I na,I no,I nn,.slice la pl.length lc,I se,I sn,.bool true,I 0,I falls,.slice ka cls.length kc] rfl (fun w4_ M4=>?_)
 replace B_b0:=zwb M4
 replace B_b1:=zwg M4 B_b1 D_b0_b1
 replace H:=Lib.hid (M4.out.rdM H.out N_b0.out)
 replace EW:=zwe M4 EW O_b0
 go_wp2_with ((with_reducible refine zst (L:=[44,41,31,100]) ?_ ?_); exact rfl)
 unfold Hid
 refine wpList_loadP rfl 31 (.tmp 5) rfl b0 0 rfl B_b0 [.slice ca sc.length cc,.slice ua su.length uc,.slice aa sa.length ac,.slice pa sp.length pc] rfl Tryz.underlying31 (by kernel_rfl) (fun v6 H_v6=>?_)
 go_wp2_with fail
 rw [show _ = Value.agg #[.slice ca sc.length cc,.slice ua su.length uc,.slice aa sa.length ac,.slice pa sp.length pc] from H_v6.out]
 refine (refBack_keeps _ _ _ _ ⟨sc,su,sa,sp⟩ w4_ B (st_rd H.out.cells H.out.undo H.out.answers H.out.past) hr).to fun r wb eb hr1=>?_
 obtain ⟨cs,rfl,hcs⟩:=rd_agg hr1
 obtain ⟨c',u',a',p',rfl,r1,r2,r3,r4⟩:=rd_st hcs
 obtain ⟨ca',cc',rfl⟩:=row_slice r1.out
 obtain ⟨ua',uc',rfl⟩:=row_slice r2.out
 obtain ⟨aa',ac',rfl⟩:=rowOf_slice r3.out
 obtain ⟨pa',pc',rfl⟩:=rowOf_slice r4.out
 have hsz : w.heap.size + 2 ≤ w4_.heap.size:=by have q:=(Array.getElem?_eq_some_iff.1 B_b1.out).1; have q2:=A_b1.out; omega
 have hin : ∀ k,k < wb.heap.size → (B k ∨ w4_.heap.size ≤ k) → B k:=fun k _ h=>by
  rcases h with h | h
  ·exact h
  ·exact HK.out.2.1 k (by omega)
 have R1:=Lib.hid (r1.widen hin)
 have R2:=Lib.hid (r2.widen hin)
 have R3:=Lib.hid (r3.widen hin)
 have R4:=Lib.hid (r4.widen hin)
 clear hr1 hcs r1 r2 r3 r4 hin hsz
 replace B_b0:=zbx B_b0 eb
 replace B_b1:=zbx B_b1 eb
 replace H:=Lib.hid (H.out.ext eb)
 replace EW:=Lib.hid (EW.out.trans eb)
 go_wp2_with ((with_reducible refine zst (L:=[44,41,31,100]) ?_ ?_); exact rfl)
 unfold Hid
 refine wpList_storeP rfl 31 (.tmp 8) (.tmp 7) rfl b0 0 rfl [.slice ca' (backSt ⟨sc,su,sa,sp⟩).cells.length cc',.slice ua' (backSt ⟨sc,su,sa,sp⟩).undo.length uc',.slice aa' (backSt ⟨sc,su,sa,sp⟩).answers.length ac',.slice pa' (backSt ⟨sc,su,sa,sp⟩).past.length pc'] (rfl) B_b0 rfl (by kernel_rfl) rfl [.slice ca' (backSt ⟨sc,su,sa,sp⟩).cells.length cc',.slice ua' (backSt ⟨sc,su,sa,sp⟩).undo.length uc',.slice aa' (backSt ⟨sc,su,sa,sp⟩).answers.length ac',.slice pa' (backSt ⟨sc,su,sa,sp⟩).past.length pc',I gen,.slice xa bl.length xc,.bool busy,I nc,I nt,I nk,I na,I no,I nn,.slice la pl.length lc,I se,I sn,.bool true,I 0,I falls,.slice ka cls.length kc] rfl (fun w5_ M5=>?_)
 replace B_b0:=zwb M5
 replace B_b1:=zwg M5 B_b1 D_b0_b1
 replace H:=Lib.hid (M5.out.rdM H.out N_b0.out)
 replace R1:=zwr M5 R1 N_b0
 replace R2:=zwr M5 R2 N_b0
 replace R3:=zwr M5 R3 N_b0
 replace R4:=zwr M5 R4 N_b0
 replace EW:=zwe M5 EW O_b0
 have c4:=cell_of (i:=4) B_b0.out rfl
 go_wp2_with ((with_reducible refine zst (L:=[44,41,31,100]) ?_ ?_); exact rfl)
 unfold Hid
 clear c4
 refine wpList_buildB rfl 41 #[(0,.tmp 12)] rfl #[I (gen + 1),.slice none 0 0,.bool false,I 0,I 0,I 0,I 0,I 0,I 0,.slice none 0 0,I 0,I 0] (by kernel_rfl) (fun v13 H_v13=>?_)
 go_wp2_with ((with_reducible refine zst (L:=[44,41,31,100]) ?_ ?_); exact rfl)
 unfold Hid
 refine wpList_storeP rfl 41 (.tmp 14) (.tmp 13) rfl b0 4 rfl _ (zcv H_v13) B_b0 rfl (by kernel_rfl) rfl [.slice ca' (backSt ⟨sc,su,sa,sp⟩).cells.length cc',.slice ua' (backSt ⟨sc,su,sa,sp⟩).undo.length uc',.slice aa' (backSt ⟨sc,su,sa,sp⟩).answers.length ac',.slice pa' (backSt ⟨sc,su,sa,sp⟩).past.length pc',I (gen + 1),.slice none 0 0,.bool false,I 0,I 0,I 0,I 0,I 0,I 0,.slice none 0 0,I 0,I 0,.bool true,I 0,I falls,.slice ka cls.length kc] rfl (fun w6_ M6=>?_)
 replace B_b0:=zwb M6
 replace B_b1:=zwg M6 B_b1 D_b0_b1
 replace H:=Lib.hid (M6.out.rdM H.out N_b0.out)
 replace R1:=zwr M6 R1 N_b0
 replace R2:=zwr M6 R2 N_b0
 replace R3:=zwr M6 R3 N_b0
 replace R4:=zwr M6 R4 N_b0
 replace EW:=zwe M6 EW O_b0
 go_wp2_with ((with_reducible refine zst (L:=[44,41,31,100]) ?_ ?_); exact rfl)
 unfold Hid
 refine wpList_loadW rfl 44 (.tmp 1) rfl b0 rfl B_b0 Tryz.underlying44 (by kernel_rfl) (fun v26 H_v26=>?_)
 go_wp2_with ((with_reducible refine zst (L:=[44,41,31,100]) ?_ ?_); exact rfl)
 unfold Hid
 refine wpList_storeW rfl 44 (.tmp 2) (.tmp 26) rfl b1 rfl _ (zcv H_v26) B_b1 rfl (by kernel_rfl) rfl (fun w7_ M7=>?_)
 replace B_b0:=zwl M7 B_b0 D_b0_b1
 replace B_b1:=zwb M7
 replace H:=Lib.hid (M7.out.rdM H.out N_b1.out)
 replace R1:=zwr M7 R1 N_b1
 replace R2:=zwr M7 R2 N_b1
 replace R3:=zwr M7 R3 N_b1
 replace R4:=zwr M7 R4 N_b1
 replace EW:=zwe M7 EW O_b1
 go_wp2
 have z0:=run_box (P:=Tryz.prog) 44 B_b1.out Tryz.underlying44 (by kernel_rfl)
 refine bodyPost_ret (by simp [results,Tryz.results49,asAddr,z0,Act.put]; rfl) rfl ?_
 exact ⟨_,rfl,EW.out,Rd.widen (A:=B) (agg_rd (RdM.mc (m:=⟨backSt ⟨sc,su,sa,sp⟩,idleSv (gen + 1) [],true,0,falls,cls⟩) ⟨R1.out,R2.out,R3.out,R4.out,Rd.all fun w=>RowOf.nil w,Rd.all fun w=>writes_nil w,H.out.clients⟩)) (fun k _ h=>HK.out.2.2.2 k h)⟩

end Go.Proofs.YtdmipnnfooleladGreat

namespace Go.Proofs.YtdmipnnfooleladGreat
open Go.RowKit Go.Mk
set_option maxRecDepth 100000

theorem Tryz.infoClient : (Tryz.prog.info? 100).map (fun i=>(i.zero,i.size,i.bytes)) = some (some (.agg #[.slice none 0 0,I 0,.bool false,I 0,.slice none 0 0,.slice none 0 0]),6,96):=by kernel_rfl

set_option maxHeartbeats 400000 in
theorem refWith_keeps (m : Mc) (c u a p box plan cl : Value) (n : Nat) (ol : List Cl) (oat : Int) (osent : Bool) (ogen : Int) (xl : List (List UInt8)) (gl : List Rp) (calls ob2 got : Value) (w : World) (A : Nat → Prop) (h : RdM A w m c u a p box plan cl)
  (hc1 : Rd A (fun w=>RowOf 4 elCl w calls ol) w) (hc2 : Rd A (fun w=>RowOf 1 elBs w ob2 xl) w) (hc3 : Rd A (fun w=>RowOf 2 elRp w got gl) w) (hn : n < m.clients.length) (hl : m.clients.length ≤ 1000) :
  Keeps Tryz.prog 46 #[.agg (cells20 m c u a p box plan cl).toArray,I n,.agg #[calls,I oat,.bool osent,I ogen,ob2,got]] w A (fun r w'=>Agg elMc { m with clients:=m.clients.set n ⟨ol,oat,osent,ogen,xl,gl⟩ } r w'):=by
 unfold Keeps
 obtain ⟨ca,cc,ua,uc,aa,ac,pa,pc,xa,xc,la,lc,ka,kc,rfl,rfl,rfl,rfl,rfl,rfl,rfl⟩:=h.slices
 obtain ⟨oa,oc,rfl⟩:=rowOf_slice hc1.out
 obtain ⟨ob,od,rfl⟩:=rowOf_slice hc2.out
 obtain ⟨og,oh,rfl⟩:=rowOf_slice hc3.out
 obtain ⟨⟨sc,su,sa,sp⟩,⟨gen,bl,busy,⟨nc,nt,⟨nk,na,no,nn⟩⟩,pl,⟨se,sn⟩⟩,up,pause,falls,cls⟩:=m
 simp only [cells20] at *
 have EW:=Lib.hid (Ext.refl w)
 obtain ⟨B,hB⟩:=away A w.heap.size 3
 have HK:=Lib.hid hB
 clear hB
 have H:=Lib.hid (h.widen HK.out.1)
 have C1:=Lib.hid (hc1.widen HK.out.1)
 have C2:=Lib.hid (hc2.widen HK.out.1)
 have C3:=Lib.hid (hc3.widen HK.out.1)
 clear h hc1 hc2 hc3
 obtain ⟨css,hcs⟩:=rd_rowOf2 (by decide) H.out.clients
 have HCS:=Lib.hid hcs.left
 have HRW:=Lib.hid hcs.right
 clear hcs
 have HN:=Lib.hid hn
 have HL:=Lib.hid hl
 clear hn hl
 obtain ⟨i0,hi,hz0,hz1,hz2⟩:=info_parts Tryz.infoClient
 have HI:=Lib.hid hi
 clear hi
 go_enter Tryz.func46,Tryz.ntmps46
 go_wp2_with ((with_reducible refine zst (L:=[44,41,31,100]) ?_ ?_); exact rfl)
 unfold Hid
 refine wpList_boxB rfl 44 (.tmp 0) rfl #[.slice ca sc.length cc,.slice ua su.length uc,.slice aa sa.length ac,.slice pa sp.length pc,I gen,.slice xa bl.length xc,.bool busy,I nc,I nt,I nk,I na,I no,I nn,.slice la pl.length lc,I se,I sn,.bool up,I pause,I falls,.slice ka cls.length kc] rfl (fun b0 w1_ M1=>?_)
 have B_b0:=zmb M1
 replace H:=Lib.hid (H.out.ext M1.out.ext)
 replace C1:=zme M1 C1
 replace C2:=zme M1 C2
 replace C3:=zme M1 C3
 replace HCS:=zme M1 HCS
 replace HRW:=zme M1 HRW
 replace EW:=zet EW M1
 go_wp2_with ((with_reducible refine zst (L:=[44,41,31,100]) ?_ ?_); exact rfl)
 unfold Hid
 refine wpList_boxB rfl 100 (.tmp 2) rfl #[.slice oa ol.length oc,I oat,.bool osent,I ogen,.slice ob xl.length od,.slice og gl.length oh] rfl (fun b1 w2_ M2=>?_)
 have D_b0_b1:=zld B_b0 M2
 replace B_b0:=zmo M2 B_b0
 have B_b1:=zmb M2
 replace H:=Lib.hid (H.out.ext M2.out.ext)
 replace C1:=zme M2 C1
 replace C2:=zme M2 C2
 replace C3:=zme M2 C3
 replace HCS:=zme M2 HCS
 replace HRW:=zme M2 HRW
 replace EW:=zet EW M2
 go_wp2_with ((with_reducible refine zst (L:=[44,41,31,100]) ?_ ?_); exact rfl)
 unfold Hid
 refine wpList_allocB rfl 44 #[.slice none 0 0,.slice none 0 0,.slice none 0 0,.slice none 0 0,I 0,.slice none 0 0,.bool false,I 0,I 0,I 0,I 0,I 0,I 0,.slice none 0 0,I 0,I 0,.bool false,I 0,I 0,.slice none 0 0] (by kernel_rfl) (fun b2 w3_ M3=>?_)
 have D_b0_b2:=zld B_b0 M3
 have D_b1_b2:=zld B_b1 M3
 replace B_b0:=zmo M3 B_b0
 replace B_b1:=zmo M3 B_b1
 have B_b2:=zmb M3
 replace H:=Lib.hid (H.out.ext M3.out.ext)
 replace C1:=zme M3 C1
 replace C2:=zme M3 C2
 replace C3:=zme M3 C3
 replace HCS:=zme M3 HCS
 replace HRW:=zme M3 HRW
 replace EW:=zet EW M3
 have A_b0 : Hid (b0 = w.heap.size + 0):=by unfold Hid; have q0:=M1.out.at_; have r0:=M1.out.size; omega
 have N_b0:=znb HK A_b0 (by decide)
 have O_b0:=zob A_b0
 have A_b1 : Hid (b1 = w.heap.size + 1):=by unfold Hid; have q0:=M1.out.at_; have r0:=M1.out.size; have q1:=M2.out.at_; have r1:=M2.out.size; omega
 have N_b1:=znb HK A_b1 (by decide)
 have O_b1:=zob A_b1
 have A_b2 : Hid (b2 = w.heap.size + 2):=by unfold Hid; have q0:=M1.out.at_; have r0:=M1.out.size; have q1:=M2.out.at_; have r1:=M2.out.size; have q2:=M3.out.at_; have r2:=M3.out.size; omega
 have N_b2:=znb HK A_b2 (by decide)
 have O_b2:=zob A_b2
 go_wp2_with ((with_reducible refine zst (L:=[44,41,31,100]) ?_ ?_); exact rfl)
 unfold Hid
 refine wpList_litB rfl 100 0 #[] (by kernel_rfl) (fun b3 w4_ M4=>?_)
 have D_b0_b3:=zld B_b0 M4
 have D_b1_b3:=zld B_b1 M4
 have D_b2_b3:=zld B_b2 M4
 obtain ⟨B1,HB1⟩ : ∃ X : Nat → Prop,Hid (∀ k,X k ↔ (B k ∧ k ≠ b3)):=⟨_,fun _=>Iff.rfl⟩
 replace H:=Lib.hid (H.out.widen (B:=B1) (fun k hk h=>(HB1.out k).2 ⟨h,by have q2:=M4.out.at_; omega⟩))
 replace C1:=zmd HB1 M4 C1
 replace C2:=zmd HB1 M4 C2
 replace C3:=zmd HB1 M4 C3
 replace HCS:=zmd HB1 M4 HCS
 replace HRW:=zmd HB1 M4 HRW
 replace N_b0:=znw HB1 N_b0
 replace N_b1:=znw HB1 N_b1
 replace N_b2:=znw HB1 N_b2
 have N_b3 : Hid (¬ B1 b3):=fun h=>((HB1.out _).1 h).2 rfl
 have I_B1 : Hid (∀ k,B1 k → B k):=fun k h=>((HB1.out k).1 h).1
 have O_b3 : Hid (w.heap.size ≤ b3):=by unfold Hid; have q2:=M4.out.at_; have q3:=EW.out.size; omega
 replace B_b0:=zmo M4 B_b0
 replace B_b1:=zmo M4 B_b1
 replace B_b2:=zmo M4 B_b2
 have B_b3:=zmb M4
 replace H:=Lib.hid (H.out.ext M4.out.ext)
 replace C1:=zme M4 C1
 replace C2:=zme M4 C2
 replace C3:=zme M4 C3
 replace HCS:=zme M4 HCS
 replace HRW:=zme M4 HRW
 replace EW:=zet EW M4
 have c19:=cell_of (i:=19) B_b0.out rfl
 go_wp2_with (first | (at_builtin; refine stop_at ?_) | ((with_reducible refine zst (L:=[44,41,31,100]) ?_ ?_); exact rfl))
 unfold Hid
 clear c19
 have hones:=HCS.out.out.ones oneCn
 have hfull : FullOf b3 100 6 0 [] (.slice (some ⟨b3,0,none⟩) 0 0) w4_:=⟨b3,rfl,own_made M4.out (Nat.le_refl _) rfl (by decide)⟩
 refine wpList_append_full rfl (.tmp 7) (.tmp 9) 42 rfl b3 100 i0 (.agg #[.slice none 0 0,I 0,.bool false,I 0,.slice none 0 0,.slice none 0 0]) 6 96 Tryz.underlying42 HI.out hz0 hz1 hz2 rfl (by decide) _ 0 [] rfl hfull (.slice ka cls.length kc) rfl cls.length css.flatten HRW.out.out hones (by have:=HL.out; omega) (by decide) (by have:=M4.out.size; omega) ?_
 intro v10 w5 ho5 e5
 simp only [Nat.zero_add,List.nil_append] at ho5
 clear hfull hones
 obtain ⟨g,cap,rfl⟩ : ∃ g cap,v10 = .slice (some ⟨g,0,none⟩) cls.length cap:=by
  rcases ho5.2 with ⟨_,e1⟩ | ⟨g,cap,cur,e1,_⟩
  ·have q : n < cls.length:=HN.out; omega
  ·exact ⟨g,cap,e1⟩
 have hbg : b3 ≤ g:=(ho5.lt g rfl).1
 obtain ⟨B11,HB11⟩ : ∃ X : Nat → Prop,Hid (∀ k,X k ↔ (B1 k ∧ k ≠ g)):=⟨_,fun _=>Iff.rfl⟩
 have hnar : ∀ k,k < w4_.heap.size → B1 k → B11 k:=fun k hk h=>(HB11.out k).2 ⟨h,by have q2:=M4.out.size; have q3:=((HB1.out k).1 h).2; omega⟩
 replace H:=Lib.hid (H.out.widen (B:=B11) hnar)
 replace C1:=Lib.hid (C1.out.widen (B:=B11) hnar)
 replace C2:=Lib.hid (C2.out.widen (B:=B11) hnar)
 replace C3:=Lib.hid (C3.out.widen (B:=B11) hnar)
 replace HCS:=Lib.hid (HCS.out.widen (B:=B11) hnar)
 replace HRW:=Lib.hid (HRW.out.widen (B:=B11) hnar)
 replace N_b0:=znw HB11 N_b0
 replace N_b1:=znw HB11 N_b1
 replace N_b2:=znw HB11 N_b2
 replace N_b3:=znw HB11 N_b3
 have N_g : Hid (¬ B11 g):=fun h=>((HB11.out _).1 h).2 rfl
 have I_B11 : Hid (∀ k,B11 k → B1 k):=fun k h=>((HB11.out k).1 h).1
 clear hnar
 have O_g : Hid (w.heap.size ≤ g):=by unfold Hid; have q:=O_b3.out; omega
 replace B_b0:=zbx B_b0 e5
 replace B_b1:=zbx B_b1 e5
 replace B_b2:=zbx B_b2 e5
 replace B_b3:=zbx B_b3 e5
 replace H:=Lib.hid (H.out.ext e5)
 replace C1:=zrx C1 e5
 replace C2:=zrx C2 e5
 replace C3:=zrx C3 e5
 replace HCS:=zrx HCS e5
 replace HRW:=zrx HRW e5
 replace EW:=Lib.hid (EW.out.trans e5)
 have HO:=Lib.hid ho5
 have HBG:=Lib.hid hbg
 clear ho5 hbg
 have D_b0_g : Hid (b0 < g):=Nat.lt_of_lt_of_le D_b0_b3.out HBG.out
 have D_b1_g : Hid (b1 < g):=Nat.lt_of_lt_of_le D_b1_b3.out HBG.out
 have D_b2_g : Hid (b2 < g):=Nat.lt_of_lt_of_le D_b2_b3.out HBG.out
 go_wp2_with ((with_reducible refine zst (L:=[44,41,31,100]) ?_ ?_); exact rfl)
 unfold Hid
 refine wpList_storeP rfl 42 (.tmp 11) (.tmp 10) rfl b0 19 rfl [.slice (some ⟨g,0,none⟩) cls.length cap] (rfl) B_b0 rfl (by kernel_rfl) rfl [.slice ca sc.length cc,.slice ua su.length uc,.slice aa sa.length ac,.slice pa sp.length pc,I gen,.slice xa bl.length xc,.bool busy,I nc,I nt,I nk,I na,I no,I nn,.slice la pl.length lc,I se,I sn,.bool up,I pause,I falls,.slice (some ⟨g,0,none⟩) cls.length cap] rfl (fun w5_ M5=>?_)
 replace B_b0:=zwb M5
 replace B_b1:=zwg M5 B_b1 D_b0_b1
 replace B_b2:=zwg M5 B_b2 D_b0_b2
 replace B_b3:=zwg M5 B_b3 D_b0_b3
 replace H:=Lib.hid (M5.out.rdM H.out N_b0.out)
 replace C1:=zwr M5 C1 N_b0
 replace C2:=zwr M5 C2 N_b0
 replace C3:=zwr M5 C3 N_b0
 replace HCS:=zwr M5 HCS N_b0
 replace HRW:=zwr M5 HRW N_b0
 replace HO:=Lib.hid (M5.out.owns HO.out (own_ne_lt D_b0_g.out))
 replace EW:=zwe M5 EW O_b0
 have c19:=cell_of (i:=19) B_b0.out rfl
 go_wp2_with ((with_reducible refine zst (L:=[44,41,31,100]) ?_ ?_); exact rfl)
 unfold Hid
 clear c19
 refine wpList_loadW rfl 100 (.tmp 5) rfl b1 rfl B_b1 Tryz.underlying100 (by kernel_rfl) (fun v15 H_v15=>?_)
 have hn0 : (0 : Int) ≤ (n : Int):=by omega
 have hn1 : (n : Int) < (cls.length : Int):=by have q : n < cls.length:=HN.out; omega
 go_wp2_with ((with_reducible refine zst (L:=[44,41,31,100]) ?_ ?_); exact rfl)
 unfold Hid
 clear hn0 hn1
 obtain ⟨cur,hgb,hbb,hcsz,htk,hncap,hmax⟩:=own_block HO.out
 have hnl : n < cls.length:=HN.out
 refine wpList_storeM rfl 100 (.tmp 16) (.tmp 15) rfl g (n * 6) rfl [.slice oa ol.length oc,I oat,.bool osent,I ogen,.slice ob xl.length od,.slice og gl.length oh] (by rw [show _ = Value.agg #[.slice oa ol.length oc,I oat,.bool osent,I ogen,.slice ob xl.length od,.slice og gl.length oh] from H_v15.out]; rfl) hgb (by rw [hcsz]; simp only [List.length_cons,List.length_nil]; omega) (by kernel_rfl) (ones_of rfl) _ rfl (fun w6_ M6=>?_)
 have hO2:=own_spliced hbb hcsz htk hncap hmax M6.out (by simp only [List.length_cons,List.length_nil]; omega)
 rw [← flatten_set (size:=6) (by decide) HCS.out.out.sizes (by rw [HCS.out.out.1]; exact hnl) rfl] at hO2
 replace HO:=Lib.hid hO2
 clear hO2 hgb hbb hcsz htk hncap hmax
 replace B_b0:=zwl M6 B_b0 D_b0_g
 replace B_b1:=zwl M6 B_b1 D_b1_g
 replace B_b2:=zwl M6 B_b2 D_b2_g
 replace H:=Lib.hid (M6.out.rdM H.out N_g.out)
 replace C1:=zwr M6 C1 N_g
 replace C2:=zwr M6 C2 N_g
 replace C3:=zwr M6 C3 N_g
 replace HCS:=zwr M6 HCS N_g
 replace HRW:=zwr M6 HRW N_g
 replace EW:=zwe M6 EW O_g
 clear HRW
 go_wp2_with ((with_reducible refine zst (L:=[44,41,31,100]) ?_ ?_); exact rfl)
 unfold Hid
 refine wpList_loadW rfl 44 (.tmp 3) rfl b0 rfl B_b0 Tryz.underlying44 (by kernel_rfl) (fun v17 H_v17=>?_)
 go_wp2_with ((with_reducible refine zst (L:=[44,41,31,100]) ?_ ?_); exact rfl)
 unfold Hid
 refine wpList_storeW rfl 44 (.tmp 6) (.tmp 17) rfl b2 rfl _ (zcv H_v17) B_b2 rfl (by kernel_rfl) rfl (fun w7_ M7=>?_)
 replace B_b0:=zwl M7 B_b0 D_b0_b2
 replace B_b1:=zwl M7 B_b1 D_b1_b2
 replace B_b2:=zwb M7
 replace H:=Lib.hid (M7.out.rdM H.out N_b2.out)
 replace C1:=zwr M7 C1 N_b2
 replace C2:=zwr M7 C2 N_b2
 replace C3:=zwr M7 C3 N_b2
 replace HCS:=zwr M7 HCS N_b2
 replace HO:=Lib.hid (M7.out.owns HO.out (own_ne_lt D_b2_g.out))
 replace EW:=zwe M7 EW O_b2
 go_wp2
 have z0:=run_box (P:=Tryz.prog) 44 B_b2.out Tryz.underlying44 (by kernel_rfl)
 refine bodyPost_ret (by simp [results,Tryz.results46,asAddr,z0,Act.put]; rfl) rfl ?_
 have hin : ∀ k,B11 k → B k:=fun k h=>I_B1.out k (I_B11.out k h)
 have hnew : ∀ k,b3 ≤ k → B k:=fun k h=>HK.out.2.1 k (by have q:=D_b2_b3.out; have q2:=A_b2.out; omega)
 have hcl : Rd B (fun w=>RowOf 6 elCn w (.slice (some ⟨g,0,none⟩) cls.length cap) (cls.set n ⟨ol,oat,osent,ogen,xl,gl⟩)) w7_:=rd_own_of (fun k h _=>hnew k h) (Rd.setE (HCS.out.widen fun k _ h=>hin k h) (cn_rd (c:=⟨ol,oat,osent,ogen,xl,gl⟩) (C1.out.widen fun k _ h=>hin k h) (C2.out.widen fun k _ h=>hin k h) (C3.out.widen fun k _ h=>hin k h)) rfl n) HO.out (by decide)
 have H2:=H.out.widen (B:=B) (fun k _ h=>hin k h)
 exact ⟨_,rfl,EW.out,Rd.widen (A:=B) (agg_rd (RdM.mc (m:=⟨⟨sc,su,sa,sp⟩,⟨gen,bl,busy,⟨nc,nt,⟨nk,na,no,nn⟩⟩,pl,⟨se,sn⟩⟩,up,pause,falls,(cls.set n ⟨ol,oat,osent,ogen,xl,gl⟩)⟩) ⟨H2.cells,H2.undo,H2.answers,H2.past,H2.box,H2.plan,hcl⟩)) (fun k _ h=>HK.out.2.2.2 k h)⟩

end Go.Proofs.YtdmipnnfooleladGreat

namespace Go.Proofs.YtdmipnnfooleladGreat
open Go.RowKit Go.Mk
set_option maxRecDepth 100000

def cellsR (l : List Rp) : List Value:=l.flatMap fun x=>[I x.err,I x.n]
theorem length_cellsR (l : List Rp) : (cellsR l).length = l.length * 2:=by
 unfold cellsR
 induction l with
 | nil=>rfl
 | cons p l ih=>simp [List.flatMap_cons,ih]; omega
theorem cellsR_append (l m : List Rp) : cellsR (l ++ m) = cellsR l ++ cellsR m:=by simp [cellsR]
theorem cellsR_one (l : List Rp) : ∀ u ∈ cellsR l,u.oneCell' = true:=by
 intro u hu
 unfold cellsR at hu
 rw [List.mem_flatMap] at hu
 obtain ⟨p,_,hp⟩:=hu
 simp at hp
 rcases hp with rfl | rfl <;> rfl
theorem rowOf_rps {w : World} {v : Value} {l : List Rp} : RowOf 2 elRp w v l ↔ Row w 2 v l.length (cellsR l):=rowOf_flat (f:=fun (x : Rp)=>[I x.err,I x.n]) (fun _=>rfl)
theorem rd_rps {base e n : Nat} {v : Value} {l : List Rp} {w : World} (h : w.ownsRow base e 2 v n (cellsR l)) : Rd (fun k=>base ≤ k) (fun w=>RowOf 2 elRp w v l) w:=by
 have hl : l.length = n:=by have:=h.1; rw [length_cellsR] at this; omega
 subst hl
 exact (rd_owns h).imp fun w h=>rowOf_rps.2 h

/-- A struct, bytes, and what is wrong. -/
def Tup3 {X : Type} (R : El X) (x : X) (b : List UInt8) (e : Int) (r : Value) (w : World) : Prop:=∃ (cs : List Value) (bv : Value),r = .tuple #[.agg cs.toArray,bv,I e] ∧ R w cs x ∧ Bytes w bv b
theorem rd_tup3 {X : Type} {R : El X} {x : X} {b : List UInt8} {e : Int} {r : Value} {A : Nat → Prop} {w : World} (h : Rd A (Tup3 R x b e r) w) : ∃ (cs : List Value) (bv : Value),r = .tuple #[.agg cs.toArray,bv,I e] ∧ Rd A (fun w=>R w cs x) w ∧ Rd A (fun w=>Bytes w bv b) w:=by
 obtain ⟨cs,bv,e1,_⟩:=h.out
 have key : ∀ w',Tup3 R x b e r w' → R w' cs x ∧ Bytes w' bv b:=fun w' ⟨cs2,bv2,e2,h3⟩=>by
  rw [e1] at e2
  have : cs = cs2 ∧ bv = bv2:=by simpa using e2
  obtain ⟨rfl,rfl⟩:=this
  exact h3
 exact ⟨cs,bv,e1,h.imp fun w' hw=>(key w' hw).1,h.imp fun w' hw=>(key w' hw).2⟩
theorem tup3_rd {X : Type} {R : El X} {x : X} {b : List UInt8} {e : Int} {cs : List Value} {bv : Value} {A : Nat → Prop} {w : World} (h : Rd A (fun w=>R w cs x) w) (h2 : Rd A (fun w=>Bytes w bv b) w) : Rd A (Tup3 R x b e (.tuple #[.agg cs.toArray,bv,I e])) w:=(h.and h2).imp fun _ h=>⟨cs,bv,rfl,h.1,h.2⟩

/-- The first of a box, and the rest. -/
theorem box_first {A : Nat → Prop} {w : World} {v : Value} {b : List UInt8} {l : List (List UInt8)} (h : Rd A (fun w=>RowOf 1 elBs w v (b :: l)) w) : ∃ xb xo xc bv,v = .slice (some ⟨xb,xo,none⟩) (l.length + 1) xc ∧ l.length + 1 ≤ xc ∧ xc ≤ maxLen ∧ Rd A (fun w=>w.cell? ⟨xb,xo,none⟩ = some bv ∧ Bytes w bv b) w ∧ Rd A (fun w=>RowOf 1 elBs w (.slice (some ⟨xb,xo + 1,none⟩) l.length (xc - 1)) l) w:=by
 obtain ⟨css,h2⟩:=rd_rowOf2 (by decide) h
 obtain ⟨he,hl,ao,xc,e,h3,h4,h0,h5⟩:=h2.out
 obtain ⟨c,css',rfl⟩ : ∃ c css',css = c :: css':=by
  cases css with
  | nil=>have:=he.1; simp at this
  | cons c css'=>exact ⟨c,css',rfl⟩
 obtain ⟨hc,bv,rfl,hb⟩:=he.2 0 c b rfl rfl
 obtain ⟨xb,xo,rfl,hcell⟩:=h5 0 bv rfl
 refine ⟨xb,xo,xc,bv,e,by simpa using h3,h4,h2.imp fun w' hw=>?_,h.imp fun w' hw=>?_⟩
 ·obtain ⟨he',hl',ao',xc',e',_,_,_,h5'⟩:=hw
  obtain ⟨_,bv',e1,hb'⟩:=he'.2 0 _ b rfl rfl
  simp at e1
  subst e1
  obtain ⟨xb',xo',ea,hcell'⟩:=h5' 0 bv rfl
  rw [e,ea] at e'
  simp only [Value.slice.injEq,Option.some.injEq,Addr.mk.injEq,and_true] at e'
  obtain ⟨⟨rfl,rfl⟩,_⟩:=e'
  exact ⟨hcell',hb'⟩
 ·rw [e] at hw
  have:=RowOf.drop (by decide) hw 1 (by simp)
  simpa using this

end Go.Proofs.YtdmipnnfooleladGreat
