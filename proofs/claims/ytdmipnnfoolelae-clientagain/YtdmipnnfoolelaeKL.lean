/- Texts of the proof, merged: N10. -/
import Derived.Test.YtdmipnnfoolelaeKK

namespace Go.Proofs.Ytdmipnnfoolelae
open Go.RowKit Go.Mk

set_option maxRecDepth 100000 in
set_option maxHeartbeats 2000000 in
theorem refDo_none (m : Mc) (c u a p box plan cl : Value) (kind : Int) (n : Int) (w : World) (A : Nat → Prop) (h : RdM A w m c u a p box plan cl) (h1 : kind ≠ 1) (h2 : kind ≠ 2) (h3 : kind ≠ 3) (h4 : kind ≠ 4) :
  Keeps Try.prog 16 #[.agg (cells20 m c u a p box plan cl).toArray,.agg #[I kind,I n]] w A (fun r w'=>TupE elMc (doM m kind n).1 (doM m kind n).2 r w'):=by
 unfold Keeps
 obtain ⟨ca,cc,ua,uc,aa,ac,pa,pc,xa,xc,la,lc,ka,kc,rfl,rfl,rfl,rfl,rfl,rfl,rfl⟩:=h.slices
 obtain ⟨⟨sc,su,sa,sp⟩,⟨gen,bl,busy,⟨nc,nt,⟨nk,na,no,nn⟩⟩,pl,⟨se,sn⟩⟩,up,pause,falls,cls⟩:=m
 simp only [cells20] at *
 have EW:=Lib.hid (Ext.refl w)
 obtain ⟨B,hB⟩:=away A w.heap.size 3
 have HK:=Lib.hid hB
 clear hB
 have H:=Lib.hid (h.widen HK.out.1)
 clear h
 have hX : doM ⟨⟨sc,su,sa,sp⟩,⟨gen,bl,busy,⟨nc,nt,⟨nk,na,no,nn⟩⟩,pl,⟨se,sn⟩⟩,up,pause,falls,cls⟩ kind n = (⟨⟨sc,su,sa,sp⟩,⟨gen,bl,busy,⟨nc,nt,⟨nk,na,no,nn⟩⟩,pl,⟨se,sn⟩⟩,up,pause,falls,cls⟩,1):=by
  unfold doM
  rw [if_neg h1,if_neg h2,if_neg h3,if_neg h4]
 rw [hX]
 have e1 : (kind == 1) = false:=by simpa using h1
 have e2 : (kind == 2) = false:=by simpa using h2
 have e3 : (kind == 3) = false:=by simpa using h3
 have e4 : (kind == 4) = false:=by simpa using h4
 clear hX h1 h2 h3 h4
 go_enter Try.func16,Try.ntmps16
 go_wp2_with ((with_reducible refine zst (L:=[44,41,31,51]) ?_ ?_); exact rfl)
 unfold Hid
 refine wpList_boxB rfl 44 (.tmp 0) rfl #[.slice ca sc.length cc,.slice ua su.length uc,.slice aa sa.length ac,.slice pa sp.length pc,I gen,.slice xa bl.length xc,.bool busy,I nc,I nt,I nk,I na,I no,I nn,.slice la pl.length lc,I se,I sn,.bool up,I pause,I falls,.slice ka cls.length kc] rfl (fun b0 w1_ M1=>?_)
 have B_b0:=zmb M1
 replace H:=Lib.hid (H.out.ext M1.out.ext)
 replace EW:=zet EW M1
 go_wp2_with ((with_reducible refine zst (L:=[44,41,31,51]) ?_ ?_); exact rfl)
 unfold Hid
 refine wpList_boxB rfl 67 (.tmp 1) rfl #[I kind,I n] rfl (fun b1 w2_ M2=>?_)
 have D_b0_b1:=zld B_b0 M2
 replace B_b0:=zmo M2 B_b0
 have B_b1:=zmb M2
 replace H:=Lib.hid (H.out.ext M2.out.ext)
 replace EW:=zet EW M2
 go_wp2_with ((with_reducible refine zst (L:=[44,41,31,51]) ?_ ?_); exact rfl)
 unfold Hid
 refine wpList_allocB rfl 44 #[.slice none 0 0,.slice none 0 0,.slice none 0 0,.slice none 0 0,I 0,.slice none 0 0,.bool false,I 0,I 0,I 0,I 0,I 0,I 0,.slice none 0 0,I 0,I 0,.bool false,I 0,I 0,.slice none 0 0] (by kernel_rfl) (fun b2 w3_ M3=>?_)
 have D_b0_b2:=zld B_b0 M3
 have D_b1_b2:=zld B_b1 M3
 replace B_b0:=zmo M3 B_b0
 replace B_b1:=zmo M3 B_b1
 have B_b2:=zmb M3
 replace H:=Lib.hid (H.out.ext M3.out.ext)
 replace EW:=zet EW M3
 have A_b0 : Hid (b0 = w.heap.size + 0):=by unfold Hid; have q0:=M1.out.at_; have r0:=M1.out.size; omega
 have N_b0:=znb HK A_b0 (by decide)
 have O_b0:=zob A_b0
 have A_b1 : Hid (b1 = w.heap.size + 1):=by unfold Hid; have q0:=M1.out.at_; have r0:=M1.out.size; have q1:=M2.out.at_; have r1:=M2.out.size; omega
 have N_b1:=znb HK A_b1 (by decide)
 have O_b1:=zob A_b1
 have A_b2 : Hid (b2 = w.heap.size + 2):=by unfold Hid; have q0:=M1.out.at_; have r0:=M1.out.size; have q1:=M2.out.at_; have r1:=M2.out.size; have q2:=M3.out.at_; have r2:=M3.out.size; omega
 have N_b2:=znb HK A_b2 (by decide)
 have O_b2:=zob A_b2
 have k0:=cell_of (i:=0) B_b1.out rfl
 go_wp2_with ((with_reducible refine zst (L:=[44,41,31,51]) ?_ ?_); exact rfl)
 unfold Hid
 clear k0
 refine wpList_loadW rfl 44 (.tmp 2) rfl b0 rfl B_b0 Try.underlying44 (by kernel_rfl) (fun v132 H_v132=>?_)
 go_wp2_with ((with_reducible refine zst (L:=[44,41,31,51]) ?_ ?_); exact rfl)
 unfold Hid
 refine wpList_storeW rfl 44 (.tmp 4) (.tmp 132) rfl b2 rfl _ (zcv H_v132) B_b2 rfl (by kernel_rfl) rfl (fun w4_ M4=>?_)
 replace B_b0:=zwl M4 B_b0 D_b0_b2
 replace B_b1:=zwl M4 B_b1 D_b1_b2
 replace B_b2:=zwb M4
 replace H:=Lib.hid (M4.out.rdM H.out N_b2.out)
 replace EW:=zwe M4 EW O_b2
 go_wp2
 have z0:=run_box (P:=Try.prog) 44 B_b2.out Try.underlying44 (by kernel_rfl)
 refine bodyPost_ret (by simp [results,Try.results16,asAddr,z0]; rfl) rfl ?_
 exact ⟨_,rfl,EW.out,Rd.widen (A:=B) (tupE_rd (RdM.mc (m:=⟨⟨sc,su,sa,sp⟩,⟨gen,bl,busy,⟨nc,nt,⟨nk,na,no,nn⟩⟩,pl,⟨se,sn⟩⟩,up,pause,falls,cls⟩) H.out)) (fun k _ h=>HK.out.2.2.2 k h)⟩

set_option maxRecDepth 100000 in
set_option maxHeartbeats 2000000 in
theorem refDo_fall (m : Mc) (c u a p box plan cl : Value) (n : Int) (w : World) (A : Nat → Prop) (h : RdM A w m c u a p box plan cl) (hf : 0 ≤ m.falls) :
  Keeps Try.prog 16 #[.agg (cells20 m c u a p box plan cl).toArray,.agg #[I 3,I n]] w A (fun r w'=>TupE elMc (doM m 3 n).1 (doM m 3 n).2 r w'):=by
 unfold Keeps
 obtain ⟨ca,cc,ua,uc,aa,ac,pa,pc,xa,xc,la,lc,ka,kc,rfl,rfl,rfl,rfl,rfl,rfl,rfl⟩:=h.slices
 obtain ⟨⟨sc,su,sa,sp⟩,⟨gen,bl,busy,⟨nc,nt,⟨nk,na,no,nn⟩⟩,pl,⟨se,sn⟩⟩,up,pause,falls,cls⟩:=m
 simp only [cells20] at *
 have EW:=Lib.hid (Ext.refl w)
 obtain ⟨B,hB⟩:=away A w.heap.size 3
 have HK:=Lib.hid hB
 clear hB
 have H:=Lib.hid (h.widen HK.out.1)
 clear h
 obtain ⟨FX,FE,hFM⟩ : ∃ x y,fallM ⟨⟨sc,su,sa,sp⟩,⟨gen,bl,busy,⟨nc,nt,⟨nk,na,no,nn⟩⟩,pl,⟨se,sn⟩⟩,up,pause,falls,cls⟩ = (x,y):=⟨_,_,rfl⟩
 have hX : doM ⟨⟨sc,su,sa,sp⟩,⟨gen,bl,busy,⟨nc,nt,⟨nk,na,no,nn⟩⟩,pl,⟨se,sn⟩⟩,up,pause,falls,cls⟩ 3 n = fallM ⟨⟨sc,su,sa,sp⟩,⟨gen,bl,busy,⟨nc,nt,⟨nk,na,no,nn⟩⟩,pl,⟨se,sn⟩⟩,up,pause,falls,cls⟩:=rfl
 rw [hX,hFM]
 have HFM:=Lib.hid hFM
 clear hX hFM
 go_enter Try.func16,Try.ntmps16
 go_wp2_with ((with_reducible refine zst (L:=[44,41,31,51]) ?_ ?_); exact rfl)
 unfold Hid
 refine wpList_boxB rfl 44 (.tmp 0) rfl #[.slice ca sc.length cc,.slice ua su.length uc,.slice aa sa.length ac,.slice pa sp.length pc,I gen,.slice xa bl.length xc,.bool busy,I nc,I nt,I nk,I na,I no,I nn,.slice la pl.length lc,I se,I sn,.bool up,I pause,I falls,.slice ka cls.length kc] rfl (fun b0 w1_ M1=>?_)
 have B_b0:=zmb M1
 replace H:=Lib.hid (H.out.ext M1.out.ext)
 replace EW:=zet EW M1
 go_wp2_with ((with_reducible refine zst (L:=[44,41,31,51]) ?_ ?_); exact rfl)
 unfold Hid
 refine wpList_boxB rfl 67 (.tmp 1) rfl #[I 3,I n] rfl (fun b1 w2_ M2=>?_)
 have D_b0_b1:=zld B_b0 M2
 replace B_b0:=zmo M2 B_b0
 have B_b1:=zmb M2
 replace H:=Lib.hid (H.out.ext M2.out.ext)
 replace EW:=zet EW M2
 go_wp2_with ((with_reducible refine zst (L:=[44,41,31,51]) ?_ ?_); exact rfl)
 unfold Hid
 refine wpList_allocB rfl 44 #[.slice none 0 0,.slice none 0 0,.slice none 0 0,.slice none 0 0,I 0,.slice none 0 0,.bool false,I 0,I 0,I 0,I 0,I 0,I 0,.slice none 0 0,I 0,I 0,.bool false,I 0,I 0,.slice none 0 0] (by kernel_rfl) (fun b2 w3_ M3=>?_)
 have D_b0_b2:=zld B_b0 M3
 have D_b1_b2:=zld B_b1 M3
 replace B_b0:=zmo M3 B_b0
 replace B_b1:=zmo M3 B_b1
 have B_b2:=zmb M3
 replace H:=Lib.hid (H.out.ext M3.out.ext)
 replace EW:=zet EW M3
 have A_b0 : Hid (b0 = w.heap.size + 0):=by unfold Hid; have q0:=M1.out.at_; have r0:=M1.out.size; omega
 have N_b0:=znb HK A_b0 (by decide)
 have O_b0:=zob A_b0
 have A_b1 : Hid (b1 = w.heap.size + 1):=by unfold Hid; have q0:=M1.out.at_; have r0:=M1.out.size; have q1:=M2.out.at_; have r1:=M2.out.size; omega
 have N_b1:=znb HK A_b1 (by decide)
 have O_b1:=zob A_b1
 have A_b2 : Hid (b2 = w.heap.size + 2):=by unfold Hid; have q0:=M1.out.at_; have r0:=M1.out.size; have q1:=M2.out.at_; have r1:=M2.out.size; have q2:=M3.out.at_; have r2:=M3.out.size; omega
 have N_b2:=znb HK A_b2 (by decide)
 have O_b2:=zob A_b2
 have k0:=cell_of (i:=0) B_b1.out rfl
 go_wp2_with ((with_reducible refine zst (L:=[44,41,31,51]) ?_ ?_); exact rfl)
 unfold Hid
 clear k0
 refine wpList_loadW rfl 44 (.tmp 2) rfl b0 rfl B_b0 Try.underlying44 (by kernel_rfl) (fun v124 H_v124=>?_)
 go_wp2_with fail
 rw [show _ = Value.agg #[.slice ca sc.length cc,.slice ua su.length uc,.slice aa sa.length ac,.slice pa sp.length pc,I gen,.slice xa bl.length xc,.bool busy,I nc,I nt,I nk,I na,I no,I nn,.slice la pl.length lc,I se,I sn,.bool up,I pause,I falls,.slice ka cls.length kc] from H_v124.out]
 refine (refFall_keeps ⟨⟨sc,su,sa,sp⟩,⟨gen,bl,busy,⟨nc,nt,⟨nk,na,no,nn⟩⟩,pl,⟨se,sn⟩⟩,up,pause,falls,cls⟩ _ _ _ _ _ _ _ w3_ B H.out hf).to fun r w9 e9 hr=>?_
 rw [HFM.out] at hr
 obtain ⟨cs,rfl,hcs⟩:=rd_tupE hr
 obtain ⟨c',u',a',p',box',plan',cl',rfl,hm⟩:=rd_mc hcs
 obtain ⟨ca',cc',ua',uc',aa',ac',pa',pc',xa',xc',la',lc',ka',kc',rfl,rfl,rfl,rfl,rfl,rfl,rfl⟩:=hm.slices
 have hsz : w.heap.size + 3 ≤ w3_.heap.size:=by have q:=(Array.getElem?_eq_some_iff.1 B_b2.out).1; have q2:=A_b2.out; omega
 have HM:=Lib.hid (hm.widen (B:=B) (fun k _ h=>by
  rcases h with h | h
  ·exact h
  ·exact HK.out.2.1 k (by omega)))
 clear hr hcs hm hsz
 replace B_b0:=zbx B_b0 e9
 replace B_b1:=zbx B_b1 e9
 replace B_b2:=zbx B_b2 e9
 replace H:=Lib.hid (H.out.ext e9)
 replace EW:=Lib.hid (EW.out.trans e9)
 go_wp2_with ((with_reducible refine zst (L:=[44,41,31,51]) ?_ ?_); exact rfl)
 unfold Hid
 refine wpList_storeW rfl 44 (.tmp 4) (.tmp 126) rfl b2 rfl [.slice ca' (FX).store.cells.length cc',.slice ua' (FX).store.undo.length uc',.slice aa' (FX).store.answers.length ac',.slice pa' (FX).store.past.length pc',I (FX).server.gen,.slice xa' (FX).server.box.length xc',.bool (FX).server.busy,I (FX).server.now.client,I (FX).server.now.token,I (FX).server.now.call.kind,I (FX).server.now.call.name,I (FX).server.now.call.other,I (FX).server.now.call.n,.slice la' (FX).server.plan.length lc',I (FX).server.says.err,I (FX).server.says.n,.bool (FX).up,I (FX).pause,I (FX).falls,.slice ka' (FX).clients.length kc'] (rfl) B_b2 rfl (by kernel_rfl) rfl (fun w4_ M4=>?_)
 replace B_b0:=zwl M4 B_b0 D_b0_b2
 replace B_b1:=zwl M4 B_b1 D_b1_b2
 replace B_b2:=zwb M4
 replace H:=Lib.hid (M4.out.rdM H.out N_b2.out)
 replace HM:=Lib.hid (M4.out.rdM HM.out N_b2.out)
 replace EW:=zwe M4 EW O_b2
 go_wp2
 have z0:=run_box (P:=Try.prog) 44 B_b2.out Try.underlying44 (by kernel_rfl)
 refine bodyPost_ret (by simp [results,Try.results16,asAddr,z0]; rfl) rfl ?_
 exact ⟨_,rfl,EW.out,Rd.widen (A:=B) (tupE_rd (RdM.mc (m:=FX) HM.out)) (fun k _ h=>HK.out.2.2.2 k h)⟩

set_option maxRecDepth 100000 in
set_option maxHeartbeats 2000000 in
theorem refDo_tick (m : Mc) (c u a p box plan cl : Value) (n : Int) (w : World) (A : Nat → Prop) (h : RdM A w m c u a p box plan cl) (hr : m.store.cells.length * 8 ≤ 140737488355328) (hg : 0 ≤ m.server.gen ∧ m.server.gen ≤ 1000000) (hpz : 0 ≤ m.pause ∧ m.pause ≤ 1000000) :
  Keeps Try.prog 16 #[.agg (cells20 m c u a p box plan cl).toArray,.agg #[I 4,I n]] w A (fun r w'=>TupE elMc (doM m 4 n).1 (doM m 4 n).2 r w'):=by
 unfold Keeps
 obtain ⟨ca,cc,ua,uc,aa,ac,pa,pc,xa,xc,la,lc,ka,kc,rfl,rfl,rfl,rfl,rfl,rfl,rfl⟩:=h.slices
 obtain ⟨⟨sc,su,sa,sp⟩,⟨gen,bl,busy,⟨nc,nt,⟨nk,na,no,nn⟩⟩,pl,⟨se,sn⟩⟩,up,pause,falls,cls⟩:=m
 simp only [cells20] at *
 have EW:=Lib.hid (Ext.refl w)
 obtain ⟨B,hB⟩:=away A w.heap.size 3
 have HK:=Lib.hid hB
 clear hB
 have H:=Lib.hid (h.widen HK.out.1)
 clear h
 obtain ⟨FX,hFM⟩ : ∃ x,tickM ⟨⟨sc,su,sa,sp⟩,⟨gen,bl,busy,⟨nc,nt,⟨nk,na,no,nn⟩⟩,pl,⟨se,sn⟩⟩,up,pause,falls,cls⟩ = x:=⟨_,rfl⟩
 have hX : doM ⟨⟨sc,su,sa,sp⟩,⟨gen,bl,busy,⟨nc,nt,⟨nk,na,no,nn⟩⟩,pl,⟨se,sn⟩⟩,up,pause,falls,cls⟩ 4 n = (tickM ⟨⟨sc,su,sa,sp⟩,⟨gen,bl,busy,⟨nc,nt,⟨nk,na,no,nn⟩⟩,pl,⟨se,sn⟩⟩,up,pause,falls,cls⟩,0):=rfl
 rw [hX,hFM]
 have HFM:=Lib.hid hFM
 clear hX hFM
 go_enter Try.func16,Try.ntmps16
 go_wp2_with ((with_reducible refine zst (L:=[44,41,31,51]) ?_ ?_); exact rfl)
 unfold Hid
 refine wpList_boxB rfl 44 (.tmp 0) rfl #[.slice ca sc.length cc,.slice ua su.length uc,.slice aa sa.length ac,.slice pa sp.length pc,I gen,.slice xa bl.length xc,.bool busy,I nc,I nt,I nk,I na,I no,I nn,.slice la pl.length lc,I se,I sn,.bool up,I pause,I falls,.slice ka cls.length kc] rfl (fun b0 w1_ M1=>?_)
 have B_b0:=zmb M1
 replace H:=Lib.hid (H.out.ext M1.out.ext)
 replace EW:=zet EW M1
 go_wp2_with ((with_reducible refine zst (L:=[44,41,31,51]) ?_ ?_); exact rfl)
 unfold Hid
 refine wpList_boxB rfl 67 (.tmp 1) rfl #[I 4,I n] rfl (fun b1 w2_ M2=>?_)
 have D_b0_b1:=zld B_b0 M2
 replace B_b0:=zmo M2 B_b0
 have B_b1:=zmb M2
 replace H:=Lib.hid (H.out.ext M2.out.ext)
 replace EW:=zet EW M2
 go_wp2_with ((with_reducible refine zst (L:=[44,41,31,51]) ?_ ?_); exact rfl)
 unfold Hid
 refine wpList_allocB rfl 44 #[.slice none 0 0,.slice none 0 0,.slice none 0 0,.slice none 0 0,I 0,.slice none 0 0,.bool false,I 0,I 0,I 0,I 0,I 0,I 0,.slice none 0 0,I 0,I 0,.bool false,I 0,I 0,.slice none 0 0] (by kernel_rfl) (fun b2 w3_ M3=>?_)
 have D_b0_b2:=zld B_b0 M3
 have D_b1_b2:=zld B_b1 M3
 replace B_b0:=zmo M3 B_b0
 replace B_b1:=zmo M3 B_b1
 have B_b2:=zmb M3
 replace H:=Lib.hid (H.out.ext M3.out.ext)
 replace EW:=zet EW M3
 have A_b0 : Hid (b0 = w.heap.size + 0):=by unfold Hid; have q0:=M1.out.at_; have r0:=M1.out.size; omega
 have N_b0:=znb HK A_b0 (by decide)
 have O_b0:=zob A_b0
 have A_b1 : Hid (b1 = w.heap.size + 1):=by unfold Hid; have q0:=M1.out.at_; have r0:=M1.out.size; have q1:=M2.out.at_; have r1:=M2.out.size; omega
 have N_b1:=znb HK A_b1 (by decide)
 have O_b1:=zob A_b1
 have A_b2 : Hid (b2 = w.heap.size + 2):=by unfold Hid; have q0:=M1.out.at_; have r0:=M1.out.size; have q1:=M2.out.at_; have r1:=M2.out.size; have q2:=M3.out.at_; have r2:=M3.out.size; omega
 have N_b2:=znb HK A_b2 (by decide)
 have O_b2:=zob A_b2
 have k0:=cell_of (i:=0) B_b1.out rfl
 go_wp2_with ((with_reducible refine zst (L:=[44,41,31,51]) ?_ ?_); exact rfl)
 unfold Hid
 clear k0
 refine wpList_loadW rfl 44 (.tmp 2) rfl b0 rfl B_b0 Try.underlying44 (by kernel_rfl) (fun v130 H_v130=>?_)
 go_wp2_with fail
 rw [show _ = Value.agg #[.slice ca sc.length cc,.slice ua su.length uc,.slice aa sa.length ac,.slice pa sp.length pc,I gen,.slice xa bl.length xc,.bool busy,I nc,I nt,I nk,I na,I no,I nn,.slice la pl.length lc,I se,I sn,.bool up,I pause,I falls,.slice ka cls.length kc] from H_v130.out]
 refine (refTick_keeps ⟨⟨sc,su,sa,sp⟩,⟨gen,bl,busy,⟨nc,nt,⟨nk,na,no,nn⟩⟩,pl,⟨se,sn⟩⟩,up,pause,falls,cls⟩ _ _ _ _ _ _ _ w3_ B H.out hr hg hpz).to fun r w9 e9 hr=>?_
 rw [HFM.out] at hr
 obtain ⟨cs,rfl,hcs⟩:=rd_agg hr
 obtain ⟨c',u',a',p',box',plan',cl',rfl,hm⟩:=rd_mc hcs
 obtain ⟨ca',cc',ua',uc',aa',ac',pa',pc',xa',xc',la',lc',ka',kc',rfl,rfl,rfl,rfl,rfl,rfl,rfl⟩:=hm.slices
 have hsz : w.heap.size + 3 ≤ w3_.heap.size:=by have q:=(Array.getElem?_eq_some_iff.1 B_b2.out).1; have q2:=A_b2.out; omega
 have HM:=Lib.hid (hm.widen (B:=B) (fun k _ h=>by
  rcases h with h | h
  ·exact h
  ·exact HK.out.2.1 k (by omega)))
 clear hr hcs hm hsz
 replace B_b0:=zbx B_b0 e9
 replace B_b1:=zbx B_b1 e9
 replace B_b2:=zbx B_b2 e9
 replace H:=Lib.hid (H.out.ext e9)
 replace EW:=Lib.hid (EW.out.trans e9)
 go_wp2_with ((with_reducible refine zst (L:=[44,41,31,51]) ?_ ?_); exact rfl)
 unfold Hid
 refine wpList_storeW rfl 44 (.tmp 4) (.tmp 131) rfl b2 rfl [.slice ca' (FX).store.cells.length cc',.slice ua' (FX).store.undo.length uc',.slice aa' (FX).store.answers.length ac',.slice pa' (FX).store.past.length pc',I (FX).server.gen,.slice xa' (FX).server.box.length xc',.bool (FX).server.busy,I (FX).server.now.client,I (FX).server.now.token,I (FX).server.now.call.kind,I (FX).server.now.call.name,I (FX).server.now.call.other,I (FX).server.now.call.n,.slice la' (FX).server.plan.length lc',I (FX).server.says.err,I (FX).server.says.n,.bool (FX).up,I (FX).pause,I (FX).falls,.slice ka' (FX).clients.length kc'] (rfl) B_b2 rfl (by kernel_rfl) rfl (fun w4_ M4=>?_)
 replace B_b0:=zwl M4 B_b0 D_b0_b2
 replace B_b1:=zwl M4 B_b1 D_b1_b2
 replace B_b2:=zwb M4
 replace H:=Lib.hid (M4.out.rdM H.out N_b2.out)
 replace HM:=Lib.hid (M4.out.rdM HM.out N_b2.out)
 replace EW:=zwe M4 EW O_b2
 go_wp2
 have z0:=run_box (P:=Try.prog) 44 B_b2.out Try.underlying44 (by kernel_rfl)
 refine bodyPost_ret (by simp [results,Try.results16,asAddr,z0]; rfl) rfl ?_
 exact ⟨_,rfl,EW.out,Rd.widen (A:=B) (tupE_rd (RdM.mc (m:=FX) HM.out)) (fun k _ h=>HK.out.2.2.2 k h)⟩

end Go.Proofs.Ytdmipnnfoolelae
