/- Texts of the proof, merged: N12 N13 N14 N15. -/
import Derived.Test.YtdmipnnfooleladGreatKP
import Derived.Deep.DeepCutAuto
import Derived.Test.YtdmipnnfooleladGreatKD
import Derived.Test.YtdmipnnfooleladGreatKL
import Derived.Test.YtdmipnnfooleladGreatKE

namespace Go.Proofs.YtdmipnnfooleladGreat
open Go.RowKit Go.Mk
set_option maxRecDepth 100000

set_option maxHeartbeats 2000000 in
theorem refDo_noclient (m : Mc) (c u a p box plan cl : Value) (n : Int) (w : World) (A : Nat → Prop) (h : RdM A w m c u a p box plan cl) (hn : n < 0 ∨ (m.clients.length : Int) ≤ n) :
  Keeps Tryz.prog 24 #[.agg (cells20 m c u a p box plan cl).toArray,.agg #[I 1,I n]] w A (fun r w'=>TupE elMc (doM m 1 n).1 (doM m 1 n).2 r w'):=by
 unfold Keeps
 obtain ⟨ca,cc,ua,uc,aa,ac,pa,pc,xa,xc,la,lc,ka,kc,rfl,rfl,rfl,rfl,rfl,rfl,rfl⟩:=h.slices
 obtain ⟨⟨sc,su,sa,sp⟩,⟨gen,bl,busy,⟨nc,nt,⟨nk,na,no,nn⟩⟩,pl,⟨se,sn⟩⟩,up,pause,falls,cls⟩:=m
 simp only [cells20] at *
 have EW:=Lib.hid (Ext.refl w)
 obtain ⟨B,hB⟩:=away A w.heap.size 3
 have HK:=Lib.hid hB
 clear hB
 have H:=Lib.hid (h.widen HK.out.1)
 clear h
 have hX : doM ⟨⟨sc,su,sa,sp⟩,⟨gen,bl,busy,⟨nc,nt,⟨nk,na,no,nn⟩⟩,pl,⟨se,sn⟩⟩,up,pause,falls,cls⟩ 1 n = (⟨⟨sc,su,sa,sp⟩,⟨gen,bl,busy,⟨nc,nt,⟨nk,na,no,nn⟩⟩,pl,⟨se,sn⟩⟩,up,pause,falls,cls⟩,6):=by
  unfold doM
  rw [if_pos rfl,if_pos hn]
 rw [hX]
 clear hX
 by_cases h0 : n < 0
 case pos =>
  clear hn
  go_enter Tryz.func24,Tryz.ntmps24
  go_wp2_with ((with_reducible refine zst (L:=[44,41,31,100]) ?_ ?_); exact rfl)
  unfold Hid
  refine wpList_boxB rfl 44 (.tmp 0) rfl #[.slice ca sc.length cc,.slice ua su.length uc,.slice aa sa.length ac,.slice pa sp.length pc,I gen,.slice xa bl.length xc,.bool busy,I nc,I nt,I nk,I na,I no,I nn,.slice la pl.length lc,I se,I sn,.bool up,I pause,I falls,.slice ka cls.length kc] rfl (fun b0 w1_ M1=>?_)
  have B_b0:=zmb M1
  replace H:=Lib.hid (H.out.ext M1.out.ext)
  replace EW:=zet EW M1
  go_wp2_with ((with_reducible refine zst (L:=[44,41,31,100]) ?_ ?_); exact rfl)
  unfold Hid
  refine wpList_boxB rfl 72 (.tmp 1) rfl #[I 1,I n] rfl (fun b1 w2_ M2=>?_)
  have D_b0_b1:=zld B_b0 M2
  replace B_b0:=zmo M2 B_b0
  have B_b1:=zmb M2
  replace H:=Lib.hid (H.out.ext M2.out.ext)
  replace EW:=zet EW M2
  go_wp2_with ((with_reducible refine zst (L:=[44,41,31,100]) ?_ ?_); exact rfl)
  unfold Hid
  refine wpList_allocB rfl 44 #[.slice none 0 0,.slice none 0 0,.slice none 0 0,.slice none 0 0,I 0,.slice none 0 0,.bool false,I 0,I 0,I 0,I 0,I 0,I 0,.slice none 0 0,I 0,I 0,.bool false,I 0,I 0,.slice none 0 0] (by kernel_rfl) (fun b2 w3_ M3=>?_)
  have D_b0_b2:=zld B_b0 M3
  have D_b1_b2:=zld B_b1 M3
  replace B_b0:=zmo M3 B_b0
  replace B_b1:=zmo M3 B_b1
  have B_b2:=zmb M3
  replace H:=Lib.hid (H.out.ext M3.out.ext)
  replace EW:=zet EW M3
  have A_b0 : Hid (b0 = w.heap.size + 0):=by unfold Hid; have q0:=M1.out.at_; have r0:=M1.out.size; omega
  have N_b0:=znb HK A_b0 (by decide)
  have O_b0:=zob A_b0
  have A_b1 : Hid (b1 = w.heap.size + 1):=by unfold Hid; have q0:=M1.out.at_; have r0:=M1.out.size; have q1:=M2.out.at_; have r1:=M2.out.size; omega
  have N_b1:=znb HK A_b1 (by decide)
  have O_b1:=zob A_b1
  have A_b2 : Hid (b2 = w.heap.size + 2):=by unfold Hid; have q0:=M1.out.at_; have r0:=M1.out.size; have q1:=M2.out.at_; have r1:=M2.out.size; have q2:=M3.out.at_; have r2:=M3.out.size; omega
  have N_b2:=znb HK A_b2 (by decide)
  have O_b2:=zob A_b2
  have k0:=cell_of (i:=0) B_b1.out rfl
  have k1:=cell_of (i:=1) B_b1.out rfl
  go_wp2_with ((with_reducible refine zst (L:=[44,41,31,100]) ?_ ?_); exact rfl)
  unfold Hid
  clear k0 k1
  refine wpList_loadW rfl 44 (.tmp 2) rfl b0 rfl B_b0 Tryz.underlying44 (by kernel_rfl) (fun v31 H_v31=>?_)
  go_wp2_with ((with_reducible refine zst (L:=[44,41,31,100]) ?_ ?_); exact rfl)
  unfold Hid
  refine wpList_storeW rfl 44 (.tmp 4) (.tmp 31) rfl b2 rfl _ (zcv H_v31) B_b2 rfl (by kernel_rfl) rfl (fun w4_ M4=>?_)
  replace B_b0:=zwl M4 B_b0 D_b0_b2
  replace B_b1:=zwl M4 B_b1 D_b1_b2
  replace B_b2:=zwb M4
  replace H:=Lib.hid (M4.out.rdM H.out N_b2.out)
  replace EW:=zwe M4 EW O_b2
  go_wp2
  have z0:=run_box (P:=Tryz.prog) 44 B_b2.out Tryz.underlying44 (by kernel_rfl)
  refine bodyPost_ret (by simp [results,Tryz.results24,asAddr,z0]; rfl) rfl ?_
  exact ⟨_,rfl,EW.out,Rd.widen (A:=B) (tupE_rd (RdM.mc (m:=⟨⟨sc,su,sa,sp⟩,⟨gen,bl,busy,⟨nc,nt,⟨nk,na,no,nn⟩⟩,pl,⟨se,sn⟩⟩,up,pause,falls,cls⟩) H.out)) (fun k _ h=>HK.out.2.2.2 k h)⟩
 have hge : (cls.length : Int) ≤ n:=by
  rcases hn with h | h
  ·exact absurd h h0
  ·exact h
 clear hn
 go_enter Tryz.func24,Tryz.ntmps24
 go_wp2_with ((with_reducible refine zst (L:=[44,41,31,100]) ?_ ?_); exact rfl)
 unfold Hid
 refine wpList_boxB rfl 44 (.tmp 0) rfl #[.slice ca sc.length cc,.slice ua su.length uc,.slice aa sa.length ac,.slice pa sp.length pc,I gen,.slice xa bl.length xc,.bool busy,I nc,I nt,I nk,I na,I no,I nn,.slice la pl.length lc,I se,I sn,.bool up,I pause,I falls,.slice ka cls.length kc] rfl (fun b0 w1_ M1=>?_)
 have B_b0:=zmb M1
 replace H:=Lib.hid (H.out.ext M1.out.ext)
 replace EW:=zet EW M1
 go_wp2_with ((with_reducible refine zst (L:=[44,41,31,100]) ?_ ?_); exact rfl)
 unfold Hid
 refine wpList_boxB rfl 72 (.tmp 1) rfl #[I 1,I n] rfl (fun b1 w2_ M2=>?_)
 have D_b0_b1:=zld B_b0 M2
 replace B_b0:=zmo M2 B_b0
 have B_b1:=zmb M2
 replace H:=Lib.hid (H.out.ext M2.out.ext)
 replace EW:=zet EW M2
 go_wp2_with ((with_reducible refine zst (L:=[44,41,31,100]) ?_ ?_); exact rfl)
 unfold Hid
 refine wpList_allocB rfl 44 #[.slice none 0 0,.slice none 0 0,.slice none 0 0,.slice none 0 0,I 0,.slice none 0 0,.bool false,I 0,I 0,I 0,I 0,I 0,I 0,.slice none 0 0,I 0,I 0,.bool false,I 0,I 0,.slice none 0 0] (by kernel_rfl) (fun b2 w3_ M3=>?_)
 have D_b0_b2:=zld B_b0 M3
 have D_b1_b2:=zld B_b1 M3
 replace B_b0:=zmo M3 B_b0
 replace B_b1:=zmo M3 B_b1
 have B_b2:=zmb M3
 replace H:=Lib.hid (H.out.ext M3.out.ext)
 replace EW:=zet EW M3
 have A_b0 : Hid (b0 = w.heap.size + 0):=by unfold Hid; have q0:=M1.out.at_; have r0:=M1.out.size; omega
 have N_b0:=znb HK A_b0 (by decide)
 have O_b0:=zob A_b0
 have A_b1 : Hid (b1 = w.heap.size + 1):=by unfold Hid; have q0:=M1.out.at_; have r0:=M1.out.size; have q1:=M2.out.at_; have r1:=M2.out.size; omega
 have N_b1:=znb HK A_b1 (by decide)
 have O_b1:=zob A_b1
 have A_b2 : Hid (b2 = w.heap.size + 2):=by unfold Hid; have q0:=M1.out.at_; have r0:=M1.out.size; have q1:=M2.out.at_; have r1:=M2.out.size; have q2:=M3.out.at_; have r2:=M3.out.size; omega
 have N_b2:=znb HK A_b2 (by decide)
 have O_b2:=zob A_b2
 have k0:=cell_of (i:=0) B_b1.out rfl
 have k1:=cell_of (i:=1) B_b1.out rfl
 have c19:=cell_of (i:=19) B_b0.out rfl
 go_wp2_with ((with_reducible refine zst (L:=[44,41,31,100]) ?_ ?_); exact rfl)
 unfold Hid
 clear k0 k1 c19
 refine wpList_loadW rfl 44 (.tmp 2) rfl b0 rfl B_b0 Tryz.underlying44 (by kernel_rfl) (fun v31 H_v31=>?_)
 go_wp2_with ((with_reducible refine zst (L:=[44,41,31,100]) ?_ ?_); exact rfl)
 unfold Hid
 refine wpList_storeW rfl 44 (.tmp 4) (.tmp 31) rfl b2 rfl _ (zcv H_v31) B_b2 rfl (by kernel_rfl) rfl (fun w4_ M4=>?_)
 replace B_b0:=zwl M4 B_b0 D_b0_b2
 replace B_b1:=zwl M4 B_b1 D_b1_b2
 replace B_b2:=zwb M4
 replace H:=Lib.hid (M4.out.rdM H.out N_b2.out)
 replace EW:=zwe M4 EW O_b2
 go_wp2
 have z0:=run_box (P:=Tryz.prog) 44 B_b2.out Tryz.underlying44 (by kernel_rfl)
 refine bodyPost_ret (by simp [results,Tryz.results24,asAddr,z0]; rfl) rfl ?_
 exact ⟨_,rfl,EW.out,Rd.widen (A:=B) (tupE_rd (RdM.mc (m:=⟨⟨sc,su,sa,sp⟩,⟨gen,bl,busy,⟨nc,nt,⟨nk,na,no,nn⟩⟩,pl,⟨se,sn⟩⟩,up,pause,falls,cls⟩) H.out)) (fun k _ h=>HK.out.2.2.2 k h)⟩

set_option maxHeartbeats 2000000 in
theorem refDo_client (m : Mc) (c u a p box plan cl : Value) (n : Int) (w : World) (A : Nat → Prop) (h : RdM A w m c u a p box plan cl) (hn : 0 ≤ n ∧ n < (m.clients.length : Int)) (hl : m.clients.length ≤ 1000) (hcs : ∀ c ∈ m.clients,0 ≤ c.at_ ∧ c.at_ ≤ 1000000 ∧ c.got.length ≤ 1000) (hbx : m.server.box.length ≤ 1000) :
  Keeps Tryz.prog 24 #[.agg (cells20 m c u a p box plan cl).toArray,.agg #[I 1,I n]] w A (fun r w'=>TupE elMc (doM m 1 n).1 (doM m 1 n).2 r w'):=by
 unfold Keeps
 obtain ⟨ca,cc,ua,uc,aa,ac,pa,pc,xa,xc,la,lc,ka,kc,rfl,rfl,rfl,rfl,rfl,rfl,rfl⟩:=h.slices
 obtain ⟨⟨sc,su,sa,sp⟩,⟨gen,bl,busy,⟨nc,nt,⟨nk,na,no,nn⟩⟩,pl,⟨se,sn⟩⟩,up,pause,falls,cls⟩:=m
 simp only [cells20] at *
 have EW:=Lib.hid (Ext.refl w)
 obtain ⟨B,hB⟩:=away A w.heap.size 3
 have HK:=Lib.hid hB
 clear hB
 have H:=Lib.hid (h.widen HK.out.1)
 clear h
 obtain ⟨j,rfl⟩ : ∃ j : Nat,n = (j : Int):=⟨n.toNat,by omega⟩
 have hkl : j < cls.length:=by omega
 have hj1 : (j : Int) < (cls.length : Int):=by omega
 have hj0 : ¬ ((j : Int) < 0):=by omega
 have hj2 : ¬ ((cls.length : Int) ≤ (j : Int)):=by omega
 have hj3 : (0 : Int) ≤ (j : Int):=by omega
 obtain ⟨css,hcs2⟩:=rd_rowOf2 (by decide) H.out.clients
 have HCS:=Lib.hid hcs2.left
 have HRW:=Lib.hid hcs2.right
 clear hcs2
 obtain ⟨c6,cx,hc6,hcx,hc6l⟩:=elem_at HCS.out.out hkl
 have hgd : cls.getD j (newCn []) = cx:=by simp [hcx]
 have HCX:=Lib.hid (rd_elem HCS.out hc6 hcx)
 have HCB:=Lib.hid (hcs cx (List.mem_of_getElem? hcx))
 obtain ⟨kcalls,kbox,kgot,hk6,q1,q2,q3⟩:=rd_cn HCX.out
 subst hk6
 obtain ⟨kb,ko,hka⟩ : ∃ b o,ka = some ⟨b,o,none⟩:=by
  obtain ⟨_,_,e1,_,_,_,hf⟩:=H.out.clients.out.form (by decide)
  simp only [Value.slice.injEq,true_and] at e1
  obtain ⟨rfl,rfl⟩:=e1
  obtain ⟨b,o,_,e2,_⟩:=hf _ _ hcx
  exact ⟨b,o,e2⟩
 subst hka
 have HRG:=Lib.hid (HRW.out.imp fun w hw=>row_cells (by decide) hw HCS.out.out.sizes hc6)
 obtain ⟨kl,kat,ksent,kgen,kbl,kgl⟩:=cx
 obtain ⟨⟨ol,oat,osent,ogen,xl,gl⟩,CB,CE,hGC⟩ : ∃ x y z,goCn ⟨kl,kat,ksent,kgen,kbl,kgl⟩ (j : Int) gen up = (x,y,z):=⟨_,_,_,rfl⟩
 obtain ⟨VX,VE,hVX⟩ : ∃ x y,comeSv ⟨gen,bl,busy,⟨nc,nt,⟨nk,na,no,nn⟩⟩,pl,⟨se,sn⟩⟩ CB = (x,y):=⟨_,_,rfl⟩
 have hX : doM ⟨⟨sc,su,sa,sp⟩,⟨gen,bl,busy,⟨nc,nt,⟨nk,na,no,nn⟩⟩,pl,⟨se,sn⟩⟩,up,pause,falls,cls⟩ 1 (j : Int) = if CE ≠ 0 then (⟨⟨sc,su,sa,sp⟩,⟨gen,bl,busy,⟨nc,nt,⟨nk,na,no,nn⟩⟩,pl,⟨se,sn⟩⟩,up,pause,falls,cls⟩,CE) else if CB ≠ [] then (if VE ≠ 0 then (⟨⟨sc,su,sa,sp⟩,⟨gen,bl,busy,⟨nc,nt,⟨nk,na,no,nn⟩⟩,pl,⟨se,sn⟩⟩,up,pause,falls,cls⟩,VE) else (⟨⟨sc,su,sa,sp⟩,VX,up,pause,falls,(cls.set j ⟨ol,oat,osent,ogen,xl,gl⟩)⟩,0)) else (⟨⟨sc,su,sa,sp⟩,⟨gen,bl,busy,⟨nc,nt,⟨nk,na,no,nn⟩⟩,pl,⟨se,sn⟩⟩,up,pause,falls,(cls.set j ⟨ol,oat,osent,ogen,xl,gl⟩)⟩,0):=by
  unfold doM
  rw [if_pos rfl,if_neg (by simp only []; omega)]
  simp only [Int.toNat_natCast,hgd,hGC,hVX]
 obtain ⟨RX,RE,hRES⟩ : ∃ x y,doM ⟨⟨sc,su,sa,sp⟩,⟨gen,bl,busy,⟨nc,nt,⟨nk,na,no,nn⟩⟩,pl,⟨se,sn⟩⟩,up,pause,falls,cls⟩ 1 (j : Int) = (x,y):=⟨_,_,rfl⟩
 rw [hRES]
 rw [hX] at hRES
 have HRES : Hid ((CE ≠ 0 → (⟨⟨sc,su,sa,sp⟩,⟨gen,bl,busy,⟨nc,nt,⟨nk,na,no,nn⟩⟩,pl,⟨se,sn⟩⟩,up,pause,falls,cls⟩,CE) = (RX,RE)) ∧ (CE = 0 → CB = [] → (⟨⟨sc,su,sa,sp⟩,⟨gen,bl,busy,⟨nc,nt,⟨nk,na,no,nn⟩⟩,pl,⟨se,sn⟩⟩,up,pause,falls,(cls.set j ⟨ol,oat,osent,ogen,xl,gl⟩)⟩,0) = (RX,RE)) ∧ (CE = 0 → CB ≠ [] → VE ≠ 0 → (⟨⟨sc,su,sa,sp⟩,⟨gen,bl,busy,⟨nc,nt,⟨nk,na,no,nn⟩⟩,pl,⟨se,sn⟩⟩,up,pause,falls,cls⟩,VE) = (RX,RE)) ∧ (CE = 0 → CB ≠ [] → VE = 0 → (⟨⟨sc,su,sa,sp⟩,VX,up,pause,falls,(cls.set j ⟨ol,oat,osent,ogen,xl,gl⟩)⟩,0) = (RX,RE))):=by
  refine ⟨fun h=>?_,fun h h2=>?_,fun h h2 h3=>?_,fun h h2 h3=>?_⟩
  ·rwa [if_pos h] at hRES
  ·rwa [if_neg (by simpa using h),if_neg (by simpa using h2)] at hRES
  ·rwa [if_neg (by simpa using h),if_pos h2,if_pos h3] at hRES
  ·rwa [if_neg (by simpa using h),if_pos h2,if_neg (by simpa using h3)] at hRES
 clear hRES
 have HC1:=Lib.hid q1
 have HC2:=Lib.hid q2
 have HC3:=Lib.hid q3
 have HGC:=Lib.hid hGC
 have HVX:=Lib.hid hVX
 have HQ:=Lib.hid (And.intro hkl (And.intro hl hbx))
 clear hgd hc6 hcx hc6l HRW HCS HCX q1 q2 q3 hGC hVX hX hkl hl hbx hcs hn
 simp only [] at *
 go_enter Tryz.func24,Tryz.ntmps24
 go_wp2_with ((with_reducible refine zst (L:=[44,41,31,100]) ?_ ?_); exact rfl)
 unfold Hid
 refine wpList_boxB rfl 44 (.tmp 0) rfl #[.slice ca sc.length cc,.slice ua su.length uc,.slice aa sa.length ac,.slice pa sp.length pc,I gen,.slice xa bl.length xc,.bool busy,I nc,I nt,I nk,I na,I no,I nn,.slice la pl.length lc,I se,I sn,.bool up,I pause,I falls,.slice (some ⟨kb,ko,none⟩) cls.length kc] rfl (fun b0 w1_ M1=>?_)
 have B_b0:=zmb M1
 replace H:=Lib.hid (H.out.ext M1.out.ext)
 replace HC1:=zme M1 HC1
 replace HC2:=zme M1 HC2
 replace HC3:=zme M1 HC3
 replace HRG:=zme M1 HRG
 replace EW:=zet EW M1
 go_wp2_with ((with_reducible refine zst (L:=[44,41,31,100]) ?_ ?_); exact rfl)
 unfold Hid
 refine wpList_boxB rfl 72 (.tmp 1) rfl #[I 1,I j] rfl (fun b1 w2_ M2=>?_)
 have D_b0_b1:=zld B_b0 M2
 replace B_b0:=zmo M2 B_b0
 have B_b1:=zmb M2
 replace H:=Lib.hid (H.out.ext M2.out.ext)
 replace HC1:=zme M2 HC1
 replace HC2:=zme M2 HC2
 replace HC3:=zme M2 HC3
 replace HRG:=zme M2 HRG
 replace EW:=zet EW M2
 go_wp2_with ((with_reducible refine zst (L:=[44,41,31,100]) ?_ ?_); exact rfl)
 unfold Hid
 refine wpList_allocB rfl 44 #[.slice none 0 0,.slice none 0 0,.slice none 0 0,.slice none 0 0,I 0,.slice none 0 0,.bool false,I 0,I 0,I 0,I 0,I 0,I 0,.slice none 0 0,I 0,I 0,.bool false,I 0,I 0,.slice none 0 0] (by kernel_rfl) (fun b2 w3_ M3=>?_)
 have D_b0_b2:=zld B_b0 M3
 have D_b1_b2:=zld B_b1 M3
 replace B_b0:=zmo M3 B_b0
 replace B_b1:=zmo M3 B_b1
 have B_b2:=zmb M3
 replace H:=Lib.hid (H.out.ext M3.out.ext)
 replace HC1:=zme M3 HC1
 replace HC2:=zme M3 HC2
 replace HC3:=zme M3 HC3
 replace HRG:=zme M3 HRG
 replace EW:=zet EW M3
 have A_b0 : Hid (b0 = w.heap.size + 0):=by unfold Hid; have q0:=M1.out.at_; have r0:=M1.out.size; omega
 have N_b0:=znb HK A_b0 (by decide)
 have O_b0:=zob A_b0
 have A_b1 : Hid (b1 = w.heap.size + 1):=by unfold Hid; have q0:=M1.out.at_; have r0:=M1.out.size; have q1:=M2.out.at_; have r1:=M2.out.size; omega
 have N_b1:=znb HK A_b1 (by decide)
 have O_b1:=zob A_b1
 have A_b2 : Hid (b2 = w.heap.size + 2):=by unfold Hid; have q0:=M1.out.at_; have r0:=M1.out.size; have q1:=M2.out.at_; have r1:=M2.out.size; have q2:=M3.out.at_; have r2:=M3.out.size; omega
 have N_b2:=znb HK A_b2 (by decide)
 have O_b2:=zob A_b2
 have k0:=cell_of (i:=0) B_b1.out rfl
 have k1:=cell_of (i:=1) B_b1.out rfl
 have c19:=cell_of (i:=19) B_b0.out rfl
 go_upto_region 5 with fail
 clear k0 k1 c19
 have hszk : w.heap.size + 3 ≤ w3_.heap.size:=by have q:=(Array.getElem?_eq_some_iff.1 B_b2.out).1; have q2:=A_b2.out; omega
 have HSZK:=Lib.hid hszk
 clear hszk
 go_cut [6,7,8] (fun p6 b7 e8 wc=>∃ (b3 : Nat) (cs : List Value),p6 = .pointer (some ⟨b3,0,none⟩) ∧ e8 = I CE ∧ w3_.heap.size ≤ b3 ∧ wc.heap[b3]? = some (.cells cs.toArray 100 (0,0)) ∧ Ext w3_ wc ∧ Rd (fun k=>B k ∧ k ≠ b3) (fun w=>elCn w cs ⟨ol,oat,osent,ogen,xl,gl⟩) wc ∧ Rd (fun k=>B k ∧ k ≠ b3) (fun w=>Bytes w b7 CB) wc)
 case first =>
  go_wp2_with fail
  refine held_drew (S:=fun w'=>w'.heap[b0]? = some (.cells #[.slice ca sc.length cc,.slice ua su.length uc,.slice aa sa.length ac,.slice pa sp.length pc,I gen,.slice xa bl.length xc,.bool busy,I nc,I nt,I nk,I na,I no,I nn,.slice la pl.length lc,I se,I sn,.bool up,I pause,I falls,.slice (some ⟨kb,ko,none⟩) cls.length kc] 44 (0,0)) ∧ w'.heap[b1]? = some (.cells #[I 1,I j] 72 (0,0)) ∧ w'.rangeAt kb (ko + j * 6) [kcalls,I kat,.bool ksent,I kgen,kbox,kgot]) (by kernel_rfl) (fun wd ed _=>?_)
  replace B_b0:=zbx B_b0 ed
  replace B_b1:=zbx B_b1 ed
  replace B_b2:=zbx B_b2 ed
  replace H:=Lib.hid (H.out.ext ed)
  replace HC1:=zrx HC1 ed
  replace HC2:=zrx HC2 ed
  replace HC3:=zrx HC3 ed
  replace HRG:=zrx HRG ed
  replace EW:=Lib.hid (EW.out.trans ed)
  have hlek : w3_.heap.size ≤ wd.heap.size:=ed.size
  have HED:=Lib.hid ed
  have HLEK:=Lib.hid hlek
  clear hlek
  have HSS : Hid (wd.heap[b0]? = some (.cells #[.slice ca sc.length cc,.slice ua su.length uc,.slice aa sa.length ac,.slice pa sp.length pc,I gen,.slice xa bl.length xc,.bool busy,I nc,I nt,I nk,I na,I no,I nn,.slice la pl.length lc,I se,I sn,.bool up,I pause,I falls,.slice (some ⟨kb,ko,none⟩) cls.length kc] 44 (0,0)) ∧ wd.heap[b1]? = some (.cells #[I 1,I j] 72 (0,0)) ∧ wd.rangeAt kb (ko + j * 6) [kcalls,I kat,.bool ksent,I kgen,kbox,kgot]):=⟨B_b0.out,B_b1.out,HRG.out.out⟩
  refine held_pure 0 rfl (by kernel_rfl) (by kernel_rfl) (by kernel_rfl) (fun _ _ _ _ h=>h) rfl HSS.out (fun K hK=>?_); go_simp; refine hK _ ?_; clear hK K
  refine held_take 1 rfl (by kernel_rfl) (by kernel_rfl) (by kernel_rfl) (fun _ _ _ _ h=>h) (.slice (some ⟨kb,ko,none⟩) cls.length kc) rfl (fun w' hS=>by have q0:=cell_of (i:=19) hS.1 rfl; go_simp) HSS.out ?_
  refine held_norm (fun K hK=>?_); go_simp; refine hK _ ?_; clear hK K
  refine held_pure 2 rfl (by kernel_rfl) (by kernel_rfl) (by kernel_rfl) (fun _ _ _ _ h=>h) rfl HSS.out (fun K hK=>?_); go_simp; refine hK _ ?_; clear hK K
  refine held_take 3 rfl (by kernel_rfl) (by kernel_rfl) (by kernel_rfl) (fun _ _ _ _ h=>h) (I j) rfl (fun w' hS=>by have q0:=cell_of (i:=1) hS.2.1 rfl; go_simp) HSS.out ?_
  refine held_norm (fun K hK=>?_); go_simp; refine hK _ ?_; clear hK K
  refine held_pure 4 rfl (by kernel_rfl) (by kernel_rfl) (by kernel_rfl) (fun _ _ _ _ h=>h) rfl HSS.out (fun K hK=>?_); go_simp; refine hK _ ?_; clear hK K
  refine held_take 5 rfl (by kernel_rfl) (by kernel_rfl) (by kernel_rfl) (fun _ _ _ _ h=>h) (.agg #[kcalls,I kat,.bool ksent,I kgen,kbox,kgot]) rfl (fun w' hS=>run_loadR 100 (.tmp 37) rfl kb (ko + j * 6) rfl [kcalls,I kat,.bool ksent,I kgen,kbox,kgot] hS.2.2 Tryz.underlying100 (by kernel_rfl)) HSS.out ?_
  refine held_norm (fun K hK=>?_); go_simp; refine hK _ ?_; clear hK K
  refine held_pure 6 rfl (by kernel_rfl) (by kernel_rfl) (by kernel_rfl) (fun _ _ _ _ h=>h) rfl HSS.out (fun K hK=>?_); go_simp; refine hK _ ?_; clear hK K
  refine held_take 7 rfl (by kernel_rfl) (by kernel_rfl) (by kernel_rfl) (fun _ _ _ _ h=>h) (I j) rfl (fun w' hS=>by have q0:=cell_of (i:=1) hS.2.1 rfl; go_simp) HSS.out ?_
  refine held_norm (fun K hK=>?_); go_simp; refine hK _ ?_; clear hK K
  refine held_pure 8 rfl (by kernel_rfl) (by kernel_rfl) (by kernel_rfl) (fun _ _ _ _ h=>h) rfl HSS.out (fun K hK=>?_); go_simp; refine hK _ ?_; clear hK K
  refine held_pure 9 rfl (by kernel_rfl) (by kernel_rfl) (by kernel_rfl) (fun _ _ _ _ h=>h) rfl HSS.out (fun K hK=>?_); go_simp; refine hK _ ?_; clear hK K
  refine held_take 10 rfl (by kernel_rfl) (by kernel_rfl) (by kernel_rfl) (fun _ _ _ _ h=>h) (I gen) rfl (fun w' hS=>by have q0:=cell_of (i:=4) hS.1 rfl; go_simp) HSS.out ?_
  refine held_norm (fun K hK=>?_); go_simp; refine hK _ ?_; clear hK K
  refine held_pure 11 rfl (by kernel_rfl) (by kernel_rfl) (by kernel_rfl) (fun _ _ _ _ h=>h) rfl HSS.out (fun K hK=>?_); go_simp; refine hK _ ?_; clear hK K
  refine held_take 12 rfl (by kernel_rfl) (by kernel_rfl) (by kernel_rfl) (fun _ _ _ _ h=>h) (.bool up) rfl (fun w' hS=>by have q0:=cell_of (i:=16) hS.1 rfl; go_simp) HSS.out ?_
  refine held_norm (fun K hK=>?_); go_simp; refine hK _ ?_; clear hK K
  refine held_two 13 18 (by kernel_rfl) ?_ ?_
  ·refine wpOp_call rfl rfl 45 #[.agg #[kcalls,I kat,.bool ksent,I kgen,kbox,kgot],I j,I gen,.bool up] (by go_simp) ?_
   refine (refClientGo_keeps ⟨kl,kat,ksent,kgen,kbl,kgl⟩ kcalls kbox kgot j gen up wd B HC1.out HC2.out HC3.out HCB.out.1 HCB.out.2.1 HCB.out.2.2).to fun r wg eg hr=>?_
   rw [HGC.out] at hr
   simp only [] at hr
   obtain ⟨cs,bv,rfl,hcs,hbv⟩:=rd_tup3 hr
   obtain ⟨n1,n2,n3,rfl,r1,r2,r3⟩:=rd_cn hcs
   obtain ⟨na1,nc1,rfl⟩:=rowOf_slice r1.out
   obtain ⟨na2,nc2,rfl⟩:=rowOf_slice r2.out
   obtain ⟨na3,nc3,rfl⟩:=rowOf_slice r3.out
   clear r1 r2 r3 hr
   replace B_b0:=zbx B_b0 eg
   replace B_b1:=zbx B_b1 eg
   replace B_b2:=zbx B_b2 eg
   replace H:=Lib.hid (H.out.ext eg)
   replace HC1:=zrx HC1 eg
   replace HC2:=zrx HC2 eg
   replace HC3:=zrx HC3 eg
   replace HRG:=zrx HRG eg
   replace EW:=Lib.hid (EW.out.trans eg)
   clear HSS
   refine ⟨_,rfl,⟨B_b0.out,B_b1.out,HRG.out.out⟩,?_⟩
   have HSS : Hid (wg.heap[b0]? = some (.cells #[.slice ca sc.length cc,.slice ua su.length uc,.slice aa sa.length ac,.slice pa sp.length pc,I gen,.slice xa bl.length xc,.bool busy,I nc,I nt,I nk,I na,I no,I nn,.slice la pl.length lc,I se,I sn,.bool up,I pause,I falls,.slice (some ⟨kb,ko,none⟩) cls.length kc] 44 (0,0)) ∧ wg.heap[b1]? = some (.cells #[I 1,I j] 72 (0,0)) ∧ wg.rangeAt kb (ko + j * 6) [kcalls,I kat,.bool ksent,I kgen,kbox,kgot]):=⟨B_b0.out,B_b1.out,HRG.out.out⟩
   refine held_norm (fun K hK=>?_); go_simp; refine hK _ ?_; clear hK K
   refine held_pure 14 rfl (by kernel_rfl) (by kernel_rfl) (by kernel_rfl) (fun _ _ _ _ h=>h) rfl HSS.out (fun K hK=>?_); go_simp; refine hK _ ?_; clear hK K
   refine held_pure 15 rfl (by kernel_rfl) (by kernel_rfl) (by kernel_rfl) (fun _ _ _ _ h=>h) rfl HSS.out (fun K hK=>?_); go_simp; refine hK _ ?_; clear hK K
   refine held_pure 16 rfl (by kernel_rfl) (by kernel_rfl) (by kernel_rfl) (fun _ _ _ _ h=>h) rfl HSS.out (fun K hK=>?_); go_simp; refine hK _ ?_; clear hK K
   refine held_pure 17 rfl (by kernel_rfl) (by kernel_rfl) (by kernel_rfl) (fun _ _ _ _ h=>h) rfl HSS.out (fun K hK=>?_); go_simp; refine hK _ ?_; clear hK K
   refine held_all 18 (by kernel_rfl) (wpOp_alloc rfl rfl 100 #[.slice none 0 0,I 0,.bool false,I 0,.slice none 0 0,.slice none 0 0] (by kernel_rfl) (fun b3 wa MA=>⟨?_,?_⟩))
   ·exact ⟨MA.out.old B_b0.out,MA.out.old B_b1.out,(HRG.out.ext MA.out.ext).out⟩
   have D_b0_b3 : Hid (b0 < b3):=by unfold Hid; have q:=(Array.getElem?_eq_some_iff.1 B_b0.out).1; have q2:=MA.out.at_; omega
   have D_b1_b3 : Hid (b1 < b3):=by unfold Hid; have q:=(Array.getElem?_eq_some_iff.1 B_b1.out).1; have q2:=MA.out.at_; omega
   have HB3 : Hid (w3_.heap.size ≤ b3):=by unfold Hid; have q:=HLEK.out; have q2:=MA.out.at_; have q3:=eg.size; omega
   have hw1 : ∀ k,k < wg.heap.size → (B k ∨ wd.heap.size ≤ k) → (B k ∧ k ≠ b3):=fun k hk h=>⟨by
    rcases h with h | h
    ·exact h
    ·exact HK.out.2.1 k (by have q:=HLEK.out; have q2:=HSZK.out; omega),by have q2:=MA.out.at_; omega⟩
   have HNC:=Lib.hid ((hcs.widen (B:=(fun k=>B k ∧ k ≠ b3)) hw1).ext MA.out.ext)
   have HNB:=Lib.hid ((hbv.widen (B:=(fun k=>B k ∧ k ≠ b3)) hw1).ext MA.out.ext)
   have HEX:=Lib.hid ((HED.out.trans eg).trans MA.out.ext)
   replace HRG:=Lib.hid ((HRG.out.widen (B:=(fun k=>B k ∧ k ≠ b3)) (fun k hk h=>hw1 k hk (.inl h))).ext MA.out.ext)
   replace B_b0:=Lib.hid (MA.out.old B_b0.out)
   replace B_b1:=Lib.hid (MA.out.old B_b1.out)
   have B_b3:=Lib.hid MA.out.block
   clear hcs hbv hw1 HSS
   have HSS : Hid (wa.heap[b0]? = some (.cells #[.slice ca sc.length cc,.slice ua su.length uc,.slice aa sa.length ac,.slice pa sp.length pc,I gen,.slice xa bl.length xc,.bool busy,I nc,I nt,I nk,I na,I no,I nn,.slice la pl.length lc,I se,I sn,.bool up,I pause,I falls,.slice (some ⟨kb,ko,none⟩) cls.length kc] 44 (0,0)) ∧ wa.heap[b1]? = some (.cells #[I 1,I j] 72 (0,0)) ∧ wa.rangeAt kb (ko + j * 6) [kcalls,I kat,.bool ksent,I kgen,kbox,kgot]):=⟨B_b0.out,B_b1.out,HRG.out.out⟩
   refine held_norm (fun K hK=>?_); go_simp; refine hK _ ?_; clear hK K
   refine held_store 19 (by kernel_rfl) rfl rfl 100 (.tmp 6) (.tmp 47) rfl b3 0 rfl [.slice na1 ol.length nc1,I oat,.bool osent,I ogen,.slice na2 xl.length nc2,.slice na3 gl.length nc3] rfl B_b3.out (Nat.le_of_ble_eq_true rfl) (by kernel_rfl) (ones_of rfl) #[.slice na1 ol.length nc1,I oat,.bool osent,I ogen,.slice na2 xl.length nc2,.slice na3 gl.length nc3] ((splN_eq _ _ _ (Nat.le_of_ble_eq_true rfl)).trans rfl) (fun wz MZ=>⟨?_,?_⟩)
   ·exact ⟨MZ.out.old B_b0.out (Nat.ne_of_lt D_b0_b3.out),MZ.out.old B_b1.out (Nat.ne_of_lt D_b1_b3.out),(MZ.out.rd HRG.out (fun h=>h.2 rfl)).out⟩
   clear HSS
   have HSS : Hid (wz.heap[b0]? = some (.cells #[.slice ca sc.length cc,.slice ua su.length uc,.slice aa sa.length ac,.slice pa sp.length pc,I gen,.slice xa bl.length xc,.bool busy,I nc,I nt,I nk,I na,I no,I nn,.slice la pl.length lc,I se,I sn,.bool up,I pause,I falls,.slice (some ⟨kb,ko,none⟩) cls.length kc] 44 (0,0)) ∧ wz.heap[b1]? = some (.cells #[I 1,I j] 72 (0,0)) ∧ wz.rangeAt kb (ko + j * 6) [kcalls,I kat,.bool ksent,I kgen,kbox,kgot]):=⟨MZ.out.old B_b0.out (Nat.ne_of_lt D_b0_b3.out),MZ.out.old B_b1.out (Nat.ne_of_lt D_b1_b3.out),(MZ.out.rd HRG.out (fun h=>h.2 rfl)).out⟩
   refine held_norm (fun K hK=>?_); go_simp; refine hK _ ?_; clear hK K
   refine held_value 20 (by kernel_rfl) rfl rfl _ rfl HSS.out ?_
   refine held_norm (fun K hK=>?_); go_simp; refine hK _ ?_; clear hK K
   refine held_value 21 (by kernel_rfl) rfl rfl _ rfl HSS.out ?_
   refine held_norm (fun K hK=>?_); go_simp; refine hK _ ?_; clear hK K
   refine wpAnyH_done (by kernel_rfl) ?_ _
   clear HSS
   go_wp2_with fail
   go_meet
   case rel=>exact ⟨b3,_,rfl,rfl,HB3.out,MZ.out.block,MZ.out.ext HEX.out HB3.out,MZ.out.rd HNC.out (fun h=>h.2 rfl),MZ.out.rd HNB.out (fun h=>h.2 rfl)⟩
  ·refine wpOp_alloc rfl rfl 100 #[.slice none 0 0,I 0,.bool false,I 0,.slice none 0 0,.slice none 0 0] (by kernel_rfl) (fun b3 wa MA=>⟨?_,?_⟩)
   ·exact ⟨MA.out.old B_b0.out,MA.out.old B_b1.out,(HRG.out.ext MA.out.ext).out⟩
   have D_b0_b3 : Hid (b0 < b3):=by unfold Hid; have q:=(Array.getElem?_eq_some_iff.1 B_b0.out).1; have q2:=MA.out.at_; omega
   have D_b1_b3 : Hid (b1 < b3):=by unfold Hid; have q:=(Array.getElem?_eq_some_iff.1 B_b1.out).1; have q2:=MA.out.at_; omega
   have HB3 : Hid (w3_.heap.size ≤ b3):=by unfold Hid; have q:=HLEK.out; have q2:=MA.out.at_; omega
   have hw1 : ∀ k,k < wd.heap.size → B k → (B k ∧ k ≠ b3):=fun k hk h=>⟨h,by have q2:=MA.out.at_; omega⟩
   replace HC1:=Lib.hid ((HC1.out.widen (B:=(fun k=>B k ∧ k ≠ b3)) hw1).ext MA.out.ext)
   replace HC2:=Lib.hid ((HC2.out.widen (B:=(fun k=>B k ∧ k ≠ b3)) hw1).ext MA.out.ext)
   replace HC3:=Lib.hid ((HC3.out.widen (B:=(fun k=>B k ∧ k ≠ b3)) hw1).ext MA.out.ext)
   replace HRG:=Lib.hid ((HRG.out.widen (B:=(fun k=>B k ∧ k ≠ b3)) hw1).ext MA.out.ext)
   replace B_b0:=Lib.hid (MA.out.old B_b0.out)
   replace B_b1:=Lib.hid (MA.out.old B_b1.out)
   have B_b3:=Lib.hid MA.out.block
   clear hw1 HSS
   have HSS : Hid (wa.heap[b0]? = some (.cells #[.slice ca sc.length cc,.slice ua su.length uc,.slice aa sa.length ac,.slice pa sp.length pc,I gen,.slice xa bl.length xc,.bool busy,I nc,I nt,I nk,I na,I no,I nn,.slice la pl.length lc,I se,I sn,.bool up,I pause,I falls,.slice (some ⟨kb,ko,none⟩) cls.length kc] 44 (0,0)) ∧ wa.heap[b1]? = some (.cells #[I 1,I j] 72 (0,0)) ∧ wa.rangeAt kb (ko + j * 6) [kcalls,I kat,.bool ksent,I kgen,kbox,kgot]):=⟨B_b0.out,B_b1.out,HRG.out.out⟩
   refine held_norm (fun K hK=>?_); go_simp; refine hK _ ?_; clear hK K
   refine held_call 13 (by kernel_rfl) rfl rfl 45 #[.agg #[kcalls,I kat,.bool ksent,I kgen,kbox,kgot],I j,I gen,.bool up] (by go_simp) ?_
   refine (refClientGo_keeps ⟨kl,kat,ksent,kgen,kbl,kgl⟩ kcalls kbox kgot j gen up wa (fun k=>B k ∧ k ≠ b3) HC1.out HC2.out HC3.out HCB.out.1 HCB.out.2.1 HCB.out.2.2).to fun r wg eg hr=>?_
   rw [HGC.out] at hr
   simp only [] at hr
   obtain ⟨cs,bv,rfl,hcs,hbv⟩:=rd_tup3 hr
   obtain ⟨n1,n2,n3,rfl,r1,r2,r3⟩:=rd_cn hcs
   obtain ⟨na1,nc1,rfl⟩:=rowOf_slice r1.out
   obtain ⟨na2,nc2,rfl⟩:=rowOf_slice r2.out
   obtain ⟨na3,nc3,rfl⟩:=rowOf_slice r3.out
   clear r1 r2 r3 hr
   have hw1 : ∀ k,k < wg.heap.size → ((B k ∧ k ≠ b3) ∨ wa.heap.size ≤ k) → (B k ∧ k ≠ b3):=fun k hk h=>by
    rcases h with h | h
    ·exact h
    ·have q:=HLEK.out
     have q2:=HSZK.out
     have q3:=MA.out.size
     have q4:=MA.out.at_
     exact ⟨HK.out.2.1 k (by omega),by omega⟩
   have HNC:=Lib.hid (hcs.widen (B:=(fun k=>B k ∧ k ≠ b3)) hw1)
   have HNB:=Lib.hid (hbv.widen (B:=(fun k=>B k ∧ k ≠ b3)) hw1)
   have HEX:=Lib.hid ((HED.out.trans MA.out.ext).trans eg)
   replace HRG:=Lib.hid (HRG.out.ext eg)
   replace B_b0:=Lib.hid (blk_ext B_b0.out eg)
   replace B_b1:=Lib.hid (blk_ext B_b1.out eg)
   replace B_b3:=Lib.hid (blk_ext B_b3.out eg)
   clear hcs hbv hw1 HSS
   refine ⟨_,rfl,⟨B_b0.out,B_b1.out,HRG.out.out⟩,?_⟩
   have HSS : Hid (wg.heap[b0]? = some (.cells #[.slice ca sc.length cc,.slice ua su.length uc,.slice aa sa.length ac,.slice pa sp.length pc,I gen,.slice xa bl.length xc,.bool busy,I nc,I nt,I nk,I na,I no,I nn,.slice la pl.length lc,I se,I sn,.bool up,I pause,I falls,.slice (some ⟨kb,ko,none⟩) cls.length kc] 44 (0,0)) ∧ wg.heap[b1]? = some (.cells #[I 1,I j] 72 (0,0)) ∧ wg.rangeAt kb (ko + j * 6) [kcalls,I kat,.bool ksent,I kgen,kbox,kgot]):=⟨B_b0.out,B_b1.out,HRG.out.out⟩
   refine held_norm (fun K hK=>?_); go_simp; refine hK _ ?_; clear hK K
   refine held_pure 14 rfl (by kernel_rfl) (by kernel_rfl) (by kernel_rfl) (fun _ _ _ _ h=>h) rfl HSS.out (fun K hK=>?_); go_simp; refine hK _ ?_; clear hK K
   refine held_pure 15 rfl (by kernel_rfl) (by kernel_rfl) (by kernel_rfl) (fun _ _ _ _ h=>h) rfl HSS.out (fun K hK=>?_); go_simp; refine hK _ ?_; clear hK K
   refine held_pure 16 rfl (by kernel_rfl) (by kernel_rfl) (by kernel_rfl) (fun _ _ _ _ h=>h) rfl HSS.out (fun K hK=>?_); go_simp; refine hK _ ?_; clear hK K
   refine held_pure 17 rfl (by kernel_rfl) (by kernel_rfl) (by kernel_rfl) (fun _ _ _ _ h=>h) rfl HSS.out (fun K hK=>?_); go_simp; refine hK _ ?_; clear hK K
   refine held_store 19 (by kernel_rfl) rfl rfl 100 (.tmp 6) (.tmp 47) rfl b3 0 rfl [.slice na1 ol.length nc1,I oat,.bool osent,I ogen,.slice na2 xl.length nc2,.slice na3 gl.length nc3] rfl B_b3.out (Nat.le_of_ble_eq_true rfl) (by kernel_rfl) (ones_of rfl) #[.slice na1 ol.length nc1,I oat,.bool osent,I ogen,.slice na2 xl.length nc2,.slice na3 gl.length nc3] ((splN_eq _ _ _ (Nat.le_of_ble_eq_true rfl)).trans rfl) (fun wz MZ=>⟨?_,?_⟩)
   ·exact ⟨MZ.out.old B_b0.out (Nat.ne_of_lt D_b0_b3.out),MZ.out.old B_b1.out (Nat.ne_of_lt D_b1_b3.out),(MZ.out.rd HRG.out (fun h=>h.2 rfl)).out⟩
   clear HSS
   have HSS : Hid (wz.heap[b0]? = some (.cells #[.slice ca sc.length cc,.slice ua su.length uc,.slice aa sa.length ac,.slice pa sp.length pc,I gen,.slice xa bl.length xc,.bool busy,I nc,I nt,I nk,I na,I no,I nn,.slice la pl.length lc,I se,I sn,.bool up,I pause,I falls,.slice (some ⟨kb,ko,none⟩) cls.length kc] 44 (0,0)) ∧ wz.heap[b1]? = some (.cells #[I 1,I j] 72 (0,0)) ∧ wz.rangeAt kb (ko + j * 6) [kcalls,I kat,.bool ksent,I kgen,kbox,kgot]):=⟨MZ.out.old B_b0.out (Nat.ne_of_lt D_b0_b3.out),MZ.out.old B_b1.out (Nat.ne_of_lt D_b1_b3.out),(MZ.out.rd HRG.out (fun h=>h.2 rfl)).out⟩
   refine held_norm (fun K hK=>?_); go_simp; refine hK _ ?_; clear hK K
   refine held_value 20 (by kernel_rfl) rfl rfl _ rfl HSS.out ?_
   refine held_norm (fun K hK=>?_); go_simp; refine hK _ ?_; clear hK K
   refine held_value 21 (by kernel_rfl) rfl rfl _ rfl HSS.out ?_
   refine held_norm (fun K hK=>?_); go_simp; refine hK _ ?_; clear hK K
   refine wpAnyH_done (by kernel_rfl) ?_ _
   clear HSS
   go_wp2_with fail
   go_meet
   case rel=>exact ⟨b3,_,rfl,rfl,HB3.out,MZ.out.block,MZ.out.ext HEX.out HB3.out,MZ.out.rd HNC.out (fun h=>h.2 rfl),MZ.out.rd HNB.out (fun h=>h.2 rfl)⟩
 case rest =>
  rename World=>wc
  obtain ⟨b3,cs,rfl,rfl,hb3,hblk,hex,hcn,hby⟩:=hcut
  obtain ⟨n1,n2,n3,rfl,r1,r2,r3⟩:=rd_cn hcn
  obtain ⟨na1,nc1,rfl⟩:=rowOf_slice r1.out
  obtain ⟨na2,nc2,rfl⟩:=rowOf_slice r2.out
  obtain ⟨na3,nc3,rfl⟩:=rowOf_slice r3.out
  obtain ⟨ya,yc,rfl⟩:=row_slice hby.out
  clear hcn
  by_cases he : CE = 0
  case neg =>
   have hb : (CE != 0) = true:=by simpa using he
   obtain ⟨rfl,rfl⟩:=Prod.mk.inj (HRES.out.1 he)
   clear he HRES
   obtain ⟨B1,HB1⟩ : ∃ X : Nat → Prop,Hid (∀ k,X k ↔ (B k ∧ k ≠ b3)):=⟨_,fun _=>Iff.rfl⟩
   have hnar : ∀ k,k < w3_.heap.size → B k → B1 k:=fun k hk h=>(HB1.out k).2 ⟨h,by have q2:=hb3; omega⟩
   replace H:=Lib.hid (H.out.widen (B:=B1) hnar)
   replace N_b0:=znw HB1 N_b0
   replace N_b1:=znw HB1 N_b1
   replace N_b2:=znw HB1 N_b2
   have N_b3 : Hid (¬ B1 b3):=fun h=>((HB1.out _).1 h).2 rfl
   have I_B1 : Hid (∀ k,B1 k → B k):=fun k h=>((HB1.out k).1 h).1
   clear hnar
   have D_b0_b3 : Hid (b0 < b3):=by unfold Hid; have q:=(Array.getElem?_eq_some_iff.1 B_b0.out).1; omega
   have D_b1_b3 : Hid (b1 < b3):=by unfold Hid; have q:=(Array.getElem?_eq_some_iff.1 B_b1.out).1; omega
   have D_b2_b3 : Hid (b2 < b3):=by unfold Hid; have q:=(Array.getElem?_eq_some_iff.1 B_b2.out).1; omega
   have O_b3 : Hid (w.heap.size ≤ b3):=by unfold Hid; have q:=HSZK.out; omega
   replace B_b0:=zbx B_b0 hex
   replace B_b1:=zbx B_b1 hex
   replace B_b2:=zbx B_b2 hex
   replace H:=Lib.hid (H.out.ext hex)
   replace EW:=Lib.hid (EW.out.trans hex)
   have B_b3:=Lib.hid hblk
   have N1:=Lib.hid (r1.widen (B:=B1) (fun k _ h=>(HB1.out k).2 h))
   have N2:=Lib.hid (r2.widen (B:=B1) (fun k _ h=>(HB1.out k).2 h))
   have N3:=Lib.hid (r3.widen (B:=B1) (fun k _ h=>(HB1.out k).2 h))
   have NB:=Lib.hid (hby.widen (B:=B1) (fun k _ h=>(HB1.out k).2 h))
   clear r1 r2 r3 hby hblk hex hb3 HC1 HC2 HC3 HRG
   go_wp2_with ((with_reducible refine zst (L:=[44,41,31,100]) ?_ ?_); exact rfl)
   unfold Hid
   refine wpList_loadW rfl 44 (.tmp 2) rfl b0 rfl B_b0 Tryz.underlying44 (by kernel_rfl) (fun v52 H_v52=>?_)
   go_wp2_with ((with_reducible refine zst (L:=[44,41,31,100]) ?_ ?_); exact rfl)
   unfold Hid
   refine wpList_storeW rfl 44 (.tmp 4) (.tmp 52) rfl b2 rfl _ (zcv H_v52) B_b2 rfl (by kernel_rfl) rfl (fun w24_ M24=>?_)
   replace B_b0:=zwl M24 B_b0 D_b0_b2
   replace B_b1:=zwl M24 B_b1 D_b1_b2
   replace B_b2:=zwb M24
   replace B_b3:=zwg M24 B_b3 D_b2_b3
   replace H:=Lib.hid (M24.out.rdM H.out N_b2.out)
   replace N1:=zwr M24 N1 N_b2
   replace N2:=zwr M24 N2 N_b2
   replace N3:=zwr M24 N3 N_b2
   replace NB:=zwr M24 NB N_b2
   replace EW:=zwe M24 EW O_b2
   go_wp2
   have z0:=run_box (P:=Tryz.prog) 44 B_b2.out Tryz.underlying44 (by kernel_rfl)
   refine bodyPost_ret (by simp [results,Tryz.results24,asAddr,z0]; rfl) rfl ?_
   exact ⟨_,rfl,EW.out,Rd.widen (A:=B1) (tupE_rd (RdM.mc (m:=⟨⟨sc,su,sa,sp⟩,⟨gen,bl,busy,⟨nc,nt,⟨nk,na,no,nn⟩⟩,pl,⟨se,sn⟩⟩,up,pause,falls,cls⟩) H.out)) (fun k _ h=>HK.out.2.2.2 k (I_B1.out k h))⟩
  subst he
  by_cases hcb : CB = []
  case pos =>
   subst hcb
   obtain ⟨hMX,rfl⟩:=Prod.mk.inj (HRES.out.2.1 rfl rfl)
   have HMX:=Lib.hid hMX
   clear hMX HRES
   obtain ⟨B1,HB1⟩ : ∃ X : Nat → Prop,Hid (∀ k,X k ↔ (B k ∧ k ≠ b3)):=⟨_,fun _=>Iff.rfl⟩
   have hnar : ∀ k,k < w3_.heap.size → B k → B1 k:=fun k hk h=>(HB1.out k).2 ⟨h,by have q2:=hb3; omega⟩
   replace H:=Lib.hid (H.out.widen (B:=B1) hnar)
   replace N_b0:=znw HB1 N_b0
   replace N_b1:=znw HB1 N_b1
   replace N_b2:=znw HB1 N_b2
   have N_b3 : Hid (¬ B1 b3):=fun h=>((HB1.out _).1 h).2 rfl
   have I_B1 : Hid (∀ k,B1 k → B k):=fun k h=>((HB1.out k).1 h).1
   clear hnar
   have D_b0_b3 : Hid (b0 < b3):=by unfold Hid; have q:=(Array.getElem?_eq_some_iff.1 B_b0.out).1; omega
   have D_b1_b3 : Hid (b1 < b3):=by unfold Hid; have q:=(Array.getElem?_eq_some_iff.1 B_b1.out).1; omega
   have D_b2_b3 : Hid (b2 < b3):=by unfold Hid; have q:=(Array.getElem?_eq_some_iff.1 B_b2.out).1; omega
   have O_b3 : Hid (w.heap.size ≤ b3):=by unfold Hid; have q:=HSZK.out; omega
   replace B_b0:=zbx B_b0 hex
   replace B_b1:=zbx B_b1 hex
   replace B_b2:=zbx B_b2 hex
   replace H:=Lib.hid (H.out.ext hex)
   replace EW:=Lib.hid (EW.out.trans hex)
   have B_b3:=Lib.hid hblk
   have N1:=Lib.hid (r1.widen (B:=B1) (fun k _ h=>(HB1.out k).2 h))
   have N2:=Lib.hid (r2.widen (B:=B1) (fun k _ h=>(HB1.out k).2 h))
   have N3:=Lib.hid (r3.widen (B:=B1) (fun k _ h=>(HB1.out k).2 h))
   have NB:=Lib.hid (hby.widen (B:=B1) (fun k _ h=>(HB1.out k).2 h))
   clear r1 r2 r3 hby hblk hex hb3 HC1 HC2 HC3 HRG
   go_wp2_with ((with_reducible refine zst (L:=[44,41,31,100]) ?_ ?_); exact rfl)
   unfold Hid
   refine wpList_loadW rfl 44 (.tmp 2) rfl b0 rfl B_b0 Tryz.underlying44 (by kernel_rfl) (fun v70 H_v70=>?_)
   have k1:=cell_of (i:=1) B_b1.out rfl
   go_wp2_with ((with_reducible refine zst (L:=[44,41,31,100]) ?_ ?_); exact rfl)
   unfold Hid
   clear k1
   refine wpList_loadW rfl 100 (.tmp 6) rfl b3 rfl B_b3 Tryz.underlying100 (by kernel_rfl) (fun v73 H_v73=>?_)
   go_wp2_with fail
   rw [show _ = Value.agg #[.slice ca sc.length cc,.slice ua su.length uc,.slice aa sa.length ac,.slice pa sp.length pc,I gen,.slice xa bl.length xc,.bool busy,I nc,I nt,I nk,I na,I no,I nn,.slice la pl.length lc,I se,I sn,.bool up,I pause,I falls,.slice (some ⟨kb,ko,none⟩) cls.length kc] from H_v70.out,show _ = Value.agg #[.slice na1 ol.length nc1,I oat,.bool osent,I ogen,.slice na2 xl.length nc2,.slice na3 gl.length nc3] from H_v73.out]
   have hkk:=refWith_keeps ⟨⟨sc,su,sa,sp⟩,⟨gen,bl,busy,⟨nc,nt,⟨nk,na,no,nn⟩⟩,pl,⟨se,sn⟩⟩,up,pause,falls,cls⟩ _ _ _ _ _ _ _ j ol oat osent ogen xl gl _ _ _ wc B1 ⟨H.out.cells,H.out.undo,H.out.answers,H.out.past,H.out.box,H.out.plan,H.out.clients⟩ N1.out N2.out N3.out HQ.out.1 HQ.out.2.1
   simp only [] at hkk
   rw [HMX.out] at hkk
   refine hkk.to fun r wq eq hr=>?_
   clear hkk
   obtain ⟨cs2,rfl,hcs2⟩:=rd_agg hr
   obtain ⟨c2,u2,a2,p2,box2,plan2,cl2,rfl,hm⟩:=rd_mc hcs2
   obtain ⟨ca',cc',ua',uc',aa',ac',pa',pc',xa',xc',la',lc',ka',kc',rfl,rfl,rfl,rfl,rfl,rfl,rfl⟩:=hm.slices
   have hsz : w.heap.size + 3 ≤ wc.heap.size:=by have q:=(Array.getElem?_eq_some_iff.1 B_b2.out).1; have q2:=A_b2.out; omega
   have hz3 : b3 < wc.heap.size:=(Array.getElem?_eq_some_iff.1 B_b3.out).1
   have HM:=Lib.hid (hm.widen (B:=B1) (fun k _ h=>by
    rcases h with h | h
    ·exact h
    ·exact (HB1.out k).2 ⟨HK.out.2.1 k (by omega),by omega⟩))
   clear hr hcs2 hm hsz
   replace B_b0:=zbx B_b0 eq
   replace B_b1:=zbx B_b1 eq
   replace B_b2:=zbx B_b2 eq
   replace B_b3:=zbx B_b3 eq
   replace H:=Lib.hid (H.out.ext eq)
   replace N1:=zrx N1 eq
   replace N2:=zrx N2 eq
   replace N3:=zrx N3 eq
   replace NB:=zrx NB eq
   replace EW:=Lib.hid (EW.out.trans eq)
   go_wp2_with ((with_reducible refine zst (L:=[44,41,31,100]) ?_ ?_); exact rfl)
   unfold Hid
   refine wpList_storeW rfl 44 (.tmp 4) (.tmp 74) rfl b2 rfl [.slice ca' (RX).store.cells.length cc',.slice ua' (RX).store.undo.length uc',.slice aa' (RX).store.answers.length ac',.slice pa' (RX).store.past.length pc',I (RX).server.gen,.slice xa' (RX).server.box.length xc',.bool (RX).server.busy,I (RX).server.now.client,I (RX).server.now.token,I (RX).server.now.call.kind,I (RX).server.now.call.name,I (RX).server.now.call.other,I (RX).server.now.call.n,.slice la' (RX).server.plan.length lc',I (RX).server.says.err,I (RX).server.says.n,.bool (RX).up,I (RX).pause,I (RX).falls,.slice ka' (RX).clients.length kc'] (rfl) B_b2 rfl (by kernel_rfl) rfl (fun w24_ M24=>?_)
   replace B_b0:=zwl M24 B_b0 D_b0_b2
   replace B_b1:=zwl M24 B_b1 D_b1_b2
   replace B_b2:=zwb M24
   replace B_b3:=zwg M24 B_b3 D_b2_b3
   replace H:=Lib.hid (M24.out.rdM H.out N_b2.out)
   replace N1:=zwr M24 N1 N_b2
   replace N2:=zwr M24 N2 N_b2
   replace N3:=zwr M24 N3 N_b2
   replace NB:=zwr M24 NB N_b2
   replace HM:=Lib.hid (M24.out.rdM HM.out N_b2.out)
   replace EW:=zwe M24 EW O_b2
   go_wp2
   have z0:=run_box (P:=Tryz.prog) 44 B_b2.out Tryz.underlying44 (by kernel_rfl)
   refine bodyPost_ret (by simp [results,Tryz.results24,asAddr,z0]; rfl) rfl ?_
   exact ⟨_,rfl,EW.out,Rd.widen (A:=B1) (tupE_rd (RdM.mc (m:=RX) HM.out)) (fun k _ h=>HK.out.2.2.2 k (I_B1.out k h))⟩
  have hlen : (0 : Int) < (CB.length : Int):=by
   cases CB with
   | nil=>exact absurd rfl hcb
   | cons b l=>simp only [List.length_cons]; omega
  by_cases hve : VE = 0
  case neg =>
   have hbv : (VE != 0) = true:=by simpa using hve
   obtain ⟨rfl,rfl⟩:=Prod.mk.inj (HRES.out.2.2.1 rfl hcb hve)
   clear hve HRES hcb
   obtain ⟨B1,HB1⟩ : ∃ X : Nat → Prop,Hid (∀ k,X k ↔ (B k ∧ k ≠ b3)):=⟨_,fun _=>Iff.rfl⟩
   have hnar : ∀ k,k < w3_.heap.size → B k → B1 k:=fun k hk h=>(HB1.out k).2 ⟨h,by have q2:=hb3; omega⟩
   replace H:=Lib.hid (H.out.widen (B:=B1) hnar)
   replace N_b0:=znw HB1 N_b0
   replace N_b1:=znw HB1 N_b1
   replace N_b2:=znw HB1 N_b2
   have N_b3 : Hid (¬ B1 b3):=fun h=>((HB1.out _).1 h).2 rfl
   have I_B1 : Hid (∀ k,B1 k → B k):=fun k h=>((HB1.out k).1 h).1
   clear hnar
   have D_b0_b3 : Hid (b0 < b3):=by unfold Hid; have q:=(Array.getElem?_eq_some_iff.1 B_b0.out).1; omega
   have D_b1_b3 : Hid (b1 < b3):=by unfold Hid; have q:=(Array.getElem?_eq_some_iff.1 B_b1.out).1; omega
   have D_b2_b3 : Hid (b2 < b3):=by unfold Hid; have q:=(Array.getElem?_eq_some_iff.1 B_b2.out).1; omega
   have O_b3 : Hid (w.heap.size ≤ b3):=by unfold Hid; have q:=HSZK.out; omega
   replace B_b0:=zbx B_b0 hex
   replace B_b1:=zbx B_b1 hex
   replace B_b2:=zbx B_b2 hex
   replace H:=Lib.hid (H.out.ext hex)
   replace EW:=Lib.hid (EW.out.trans hex)
   have B_b3:=Lib.hid hblk
   have N1:=Lib.hid (r1.widen (B:=B1) (fun k _ h=>(HB1.out k).2 h))
   have N2:=Lib.hid (r2.widen (B:=B1) (fun k _ h=>(HB1.out k).2 h))
   have N3:=Lib.hid (r3.widen (B:=B1) (fun k _ h=>(HB1.out k).2 h))
   have NB:=Lib.hid (hby.widen (B:=B1) (fun k _ h=>(HB1.out k).2 h))
   clear r1 r2 r3 hby hblk hex hb3 HC1 HC2 HC3 HRG
   go_wp2_with ((with_reducible refine zst (L:=[44,41,31,100]) ?_ ?_); exact rfl)
   unfold Hid
   refine wpList_loadP rfl 41 (.tmp 58) rfl b0 4 rfl B_b0 [I gen,.slice xa bl.length xc,.bool busy,I nc,I nt,I nk,I na,I no,I nn,.slice la pl.length lc,I se,I sn] rfl Tryz.underlying41 (by kernel_rfl) (fun v59 H_v59=>?_)
   go_wp2_with fail
   rw [show _ = Value.agg #[I gen,.slice xa bl.length xc,.bool busy,I nc,I nt,I nk,I na,I no,I nn,.slice la pl.length lc,I se,I sn] from H_v59.out]
   have hkk:=refServerCome_keeps gen bl busy nc nt nk na no nn pl se sn _ _ _ CB wc B1 H.out.box H.out.plan NB.out HQ.out.2.2
   rw [HVX.out] at hkk
   simp only [] at hkk
   refine hkk.to fun r wv ev hr=>?_
   clear hkk
   obtain ⟨vs2,rfl,hvs⟩:=rd_tupE hr
   obtain ⟨vbox,vplan,rfl,v5,v6⟩:=rd_sv hvs
   obtain ⟨va5,vc5,rfl⟩:=rowOf_slice v5.out
   obtain ⟨va6,vc6,rfl⟩:=row_slice v6.out
   have hsz : w.heap.size + 3 ≤ wc.heap.size:=by have q:=(Array.getElem?_eq_some_iff.1 B_b2.out).1; have q2:=A_b2.out; omega
   have hz3 : b3 < wc.heap.size:=(Array.getElem?_eq_some_iff.1 B_b3.out).1
   have hin : ∀ k,k < wv.heap.size → (B1 k ∨ wc.heap.size ≤ k) → B1 k:=fun k _ h=>by
    rcases h with h | h
    ·exact h
    ·exact (HB1.out k).2 ⟨HK.out.2.1 k (by omega),by omega⟩
   have V5:=Lib.hid (v5.widen hin)
   have V6:=Lib.hid (v6.widen hin)
   clear hr hvs v5 v6 hin hsz hz3
   replace B_b0:=zbx B_b0 ev
   replace B_b1:=zbx B_b1 ev
   replace B_b2:=zbx B_b2 ev
   replace B_b3:=zbx B_b3 ev
   replace H:=Lib.hid (H.out.ext ev)
   replace N1:=zrx N1 ev
   replace N2:=zrx N2 ev
   replace N3:=zrx N3 ev
   replace NB:=zrx NB ev
   replace EW:=Lib.hid (EW.out.trans ev)
   go_wp2_with ((with_reducible refine zst (L:=[44,41,31,100]) ?_ ?_); exact rfl)
   unfold Hid
   refine wpList_allocB rfl 41 #[I 0,.slice none 0 0,.bool false,I 0,I 0,I 0,I 0,I 0,I 0,.slice none 0 0,I 0,I 0] (by kernel_rfl) (fun b4 w24_ M24=>?_)
   have D_b0_b4:=zld B_b0 M24
   have D_b1_b4:=zld B_b1 M24
   have D_b2_b4:=zld B_b2 M24
   have D_b3_b4:=zld B_b3 M24
   obtain ⟨B11,HB11⟩ : ∃ X : Nat → Prop,Hid (∀ k,X k ↔ (B1 k ∧ k ≠ b4)):=⟨_,fun _=>Iff.rfl⟩
   replace H:=Lib.hid (H.out.widen (B:=B11) (fun k hk h=>(HB11.out k).2 ⟨h,by have q2:=M24.out.at_; omega⟩))
   replace N1:=zmd HB11 M24 N1
   replace N2:=zmd HB11 M24 N2
   replace N3:=zmd HB11 M24 N3
   replace NB:=zmd HB11 M24 NB
   replace V5:=zmd HB11 M24 V5
   replace V6:=zmd HB11 M24 V6
   replace N_b0:=znw HB11 N_b0
   replace N_b1:=znw HB11 N_b1
   replace N_b2:=znw HB11 N_b2
   replace N_b3:=znw HB11 N_b3
   have N_b4 : Hid (¬ B11 b4):=fun h=>((HB11.out _).1 h).2 rfl
   have I_B11 : Hid (∀ k,B11 k → B1 k):=fun k h=>((HB11.out k).1 h).1
   have O_b4 : Hid (w.heap.size ≤ b4):=by unfold Hid; have q2:=M24.out.at_; have q3:=EW.out.size; omega
   replace B_b0:=zmo M24 B_b0
   replace B_b1:=zmo M24 B_b1
   replace B_b2:=zmo M24 B_b2
   replace B_b3:=zmo M24 B_b3
   have B_b4:=zmb M24
   replace H:=Lib.hid (H.out.ext M24.out.ext)
   replace N1:=zme M24 N1
   replace N2:=zme M24 N2
   replace N3:=zme M24 N3
   replace NB:=zme M24 NB
   replace V5:=zme M24 V5
   replace V6:=zme M24 V6
   replace EW:=zet EW M24
   go_wp2_with ((with_reducible refine zst (L:=[44,41,31,100]) ?_ ?_); exact rfl)
   unfold Hid
   refine wpList_storeW rfl 41 (.tmp 9) (.tmp 62) rfl b4 rfl [I VX.gen,.slice va5 VX.box.length vc5,.bool VX.busy,I VX.now.client,I VX.now.token,I VX.now.call.kind,I VX.now.call.name,I VX.now.call.other,I VX.now.call.n,.slice va6 VX.plan.length vc6,I VX.says.err,I VX.says.n] (rfl) B_b4 rfl (by kernel_rfl) rfl (fun w25_ M25=>?_)
   replace B_b0:=zwl M25 B_b0 D_b0_b4
   replace B_b1:=zwl M25 B_b1 D_b1_b4
   replace B_b2:=zwl M25 B_b2 D_b2_b4
   replace B_b3:=zwl M25 B_b3 D_b3_b4
   replace B_b4:=zwb M25
   replace H:=Lib.hid (M25.out.rdM H.out N_b4.out)
   replace N1:=zwr M25 N1 N_b4
   replace N2:=zwr M25 N2 N_b4
   replace N3:=zwr M25 N3 N_b4
   replace NB:=zwr M25 NB N_b4
   replace V5:=zwr M25 V5 N_b4
   replace V6:=zwr M25 V6 N_b4
   replace EW:=zwe M25 EW O_b4
   go_wp2_with ((with_reducible refine zst (L:=[44,41,31,100]) ?_ ?_); exact rfl)
   unfold Hid
   refine wpList_loadW rfl 44 (.tmp 2) rfl b0 rfl B_b0 Tryz.underlying44 (by kernel_rfl) (fun v66 H_v66=>?_)
   go_wp2_with ((with_reducible refine zst (L:=[44,41,31,100]) ?_ ?_); exact rfl)
   unfold Hid
   refine wpList_storeW rfl 44 (.tmp 4) (.tmp 66) rfl b2 rfl _ (zcv H_v66) B_b2 rfl (by kernel_rfl) rfl (fun w26_ M26=>?_)
   replace B_b0:=zwl M26 B_b0 D_b0_b2
   replace B_b1:=zwl M26 B_b1 D_b1_b2
   replace B_b2:=zwb M26
   replace B_b3:=zwg M26 B_b3 D_b2_b3
   replace B_b4:=zwg M26 B_b4 D_b2_b4
   replace H:=Lib.hid (M26.out.rdM H.out N_b2.out)
   replace N1:=zwr M26 N1 N_b2
   replace N2:=zwr M26 N2 N_b2
   replace N3:=zwr M26 N3 N_b2
   replace NB:=zwr M26 NB N_b2
   replace V5:=zwr M26 V5 N_b2
   replace V6:=zwr M26 V6 N_b2
   replace EW:=zwe M26 EW O_b2
   go_wp2
   have z0:=run_box (P:=Tryz.prog) 44 B_b2.out Tryz.underlying44 (by kernel_rfl)
   refine bodyPost_ret (by simp [results,Tryz.results24,asAddr,z0]; rfl) rfl ?_
   exact ⟨_,rfl,EW.out,Rd.widen (A:=B11) (tupE_rd (RdM.mc (m:=⟨⟨sc,su,sa,sp⟩,⟨gen,bl,busy,⟨nc,nt,⟨nk,na,no,nn⟩⟩,pl,⟨se,sn⟩⟩,up,pause,falls,cls⟩) H.out)) (fun k _ h=>HK.out.2.2.2 k (I_B1.out k (I_B11.out k h)))⟩
  subst hve
  obtain ⟨hMX,rfl⟩:=Prod.mk.inj (HRES.out.2.2.2 rfl hcb rfl)
  have HMX:=Lib.hid hMX
  clear hMX HRES hcb
  obtain ⟨B1,HB1⟩ : ∃ X : Nat → Prop,Hid (∀ k,X k ↔ (B k ∧ k ≠ b3)):=⟨_,fun _=>Iff.rfl⟩
  have hnar : ∀ k,k < w3_.heap.size → B k → B1 k:=fun k hk h=>(HB1.out k).2 ⟨h,by have q2:=hb3; omega⟩
  replace H:=Lib.hid (H.out.widen (B:=B1) hnar)
  replace N_b0:=znw HB1 N_b0
  replace N_b1:=znw HB1 N_b1
  replace N_b2:=znw HB1 N_b2
  have N_b3 : Hid (¬ B1 b3):=fun h=>((HB1.out _).1 h).2 rfl
  have I_B1 : Hid (∀ k,B1 k → B k):=fun k h=>((HB1.out k).1 h).1
  clear hnar
  have D_b0_b3 : Hid (b0 < b3):=by unfold Hid; have q:=(Array.getElem?_eq_some_iff.1 B_b0.out).1; omega
  have D_b1_b3 : Hid (b1 < b3):=by unfold Hid; have q:=(Array.getElem?_eq_some_iff.1 B_b1.out).1; omega
  have D_b2_b3 : Hid (b2 < b3):=by unfold Hid; have q:=(Array.getElem?_eq_some_iff.1 B_b2.out).1; omega
  have O_b3 : Hid (w.heap.size ≤ b3):=by unfold Hid; have q:=HSZK.out; omega
  replace B_b0:=zbx B_b0 hex
  replace B_b1:=zbx B_b1 hex
  replace B_b2:=zbx B_b2 hex
  replace H:=Lib.hid (H.out.ext hex)
  replace EW:=Lib.hid (EW.out.trans hex)
  have B_b3:=Lib.hid hblk
  have N1:=Lib.hid (r1.widen (B:=B1) (fun k _ h=>(HB1.out k).2 h))
  have N2:=Lib.hid (r2.widen (B:=B1) (fun k _ h=>(HB1.out k).2 h))
  have N3:=Lib.hid (r3.widen (B:=B1) (fun k _ h=>(HB1.out k).2 h))
  have NB:=Lib.hid (hby.widen (B:=B1) (fun k _ h=>(HB1.out k).2 h))
  clear r1 r2 r3 hby hblk hex hb3 HC1 HC2 HC3 HRG
  go_wp2_with ((with_reducible refine zst (L:=[44,41,31,100]) ?_ ?_); exact rfl)
  unfold Hid
  refine wpList_loadP rfl 41 (.tmp 58) rfl b0 4 rfl B_b0 [I gen,.slice xa bl.length xc,.bool busy,I nc,I nt,I nk,I na,I no,I nn,.slice la pl.length lc,I se,I sn] rfl Tryz.underlying41 (by kernel_rfl) (fun v59 H_v59=>?_)
  go_wp2_with fail
  rw [show _ = Value.agg #[I gen,.slice xa bl.length xc,.bool busy,I nc,I nt,I nk,I na,I no,I nn,.slice la pl.length lc,I se,I sn] from H_v59.out]
  have hkk:=refServerCome_keeps gen bl busy nc nt nk na no nn pl se sn _ _ _ CB wc B1 H.out.box H.out.plan NB.out HQ.out.2.2
  rw [HVX.out] at hkk
  simp only [] at hkk
  refine hkk.to fun r wv ev hr=>?_
  clear hkk
  obtain ⟨vs2,rfl,hvs⟩:=rd_tupE hr
  obtain ⟨vbox,vplan,rfl,v5,v6⟩:=rd_sv hvs
  obtain ⟨va5,vc5,rfl⟩:=rowOf_slice v5.out
  obtain ⟨va6,vc6,rfl⟩:=row_slice v6.out
  have hsz : w.heap.size + 3 ≤ wc.heap.size:=by have q:=(Array.getElem?_eq_some_iff.1 B_b2.out).1; have q2:=A_b2.out; omega
  have hz3 : b3 < wc.heap.size:=(Array.getElem?_eq_some_iff.1 B_b3.out).1
  have hin : ∀ k,k < wv.heap.size → (B1 k ∨ wc.heap.size ≤ k) → B1 k:=fun k _ h=>by
   rcases h with h | h
   ·exact h
   ·exact (HB1.out k).2 ⟨HK.out.2.1 k (by omega),by omega⟩
  have V5:=Lib.hid (v5.widen hin)
  have V6:=Lib.hid (v6.widen hin)
  clear hr hvs v5 v6 hin hsz hz3
  replace B_b0:=zbx B_b0 ev
  replace B_b1:=zbx B_b1 ev
  replace B_b2:=zbx B_b2 ev
  replace B_b3:=zbx B_b3 ev
  replace H:=Lib.hid (H.out.ext ev)
  replace N1:=zrx N1 ev
  replace N2:=zrx N2 ev
  replace N3:=zrx N3 ev
  replace NB:=zrx NB ev
  replace EW:=Lib.hid (EW.out.trans ev)
  go_wp2_with ((with_reducible refine zst (L:=[44,41,31,100]) ?_ ?_); exact rfl)
  unfold Hid
  refine wpList_allocB rfl 41 #[I 0,.slice none 0 0,.bool false,I 0,I 0,I 0,I 0,I 0,I 0,.slice none 0 0,I 0,I 0] (by kernel_rfl) (fun b4 w24_ M24=>?_)
  have D_b0_b4:=zld B_b0 M24
  have D_b1_b4:=zld B_b1 M24
  have D_b2_b4:=zld B_b2 M24
  have D_b3_b4:=zld B_b3 M24
  obtain ⟨B11,HB11⟩ : ∃ X : Nat → Prop,Hid (∀ k,X k ↔ (B1 k ∧ k ≠ b4)):=⟨_,fun _=>Iff.rfl⟩
  replace H:=Lib.hid (H.out.widen (B:=B11) (fun k hk h=>(HB11.out k).2 ⟨h,by have q2:=M24.out.at_; omega⟩))
  replace N1:=zmd HB11 M24 N1
  replace N2:=zmd HB11 M24 N2
  replace N3:=zmd HB11 M24 N3
  replace NB:=zmd HB11 M24 NB
  replace V5:=zmd HB11 M24 V5
  replace V6:=zmd HB11 M24 V6
  replace N_b0:=znw HB11 N_b0
  replace N_b1:=znw HB11 N_b1
  replace N_b2:=znw HB11 N_b2
  replace N_b3:=znw HB11 N_b3
  have N_b4 : Hid (¬ B11 b4):=fun h=>((HB11.out _).1 h).2 rfl
  have I_B11 : Hid (∀ k,B11 k → B1 k):=fun k h=>((HB11.out k).1 h).1
  have O_b4 : Hid (w.heap.size ≤ b4):=by unfold Hid; have q2:=M24.out.at_; have q3:=EW.out.size; omega
  replace B_b0:=zmo M24 B_b0
  replace B_b1:=zmo M24 B_b1
  replace B_b2:=zmo M24 B_b2
  replace B_b3:=zmo M24 B_b3
  have B_b4:=zmb M24
  replace H:=Lib.hid (H.out.ext M24.out.ext)
  replace N1:=zme M24 N1
  replace N2:=zme M24 N2
  replace N3:=zme M24 N3
  replace NB:=zme M24 NB
  replace V5:=zme M24 V5
  replace V6:=zme M24 V6
  replace EW:=zet EW M24
  go_wp2_with ((with_reducible refine zst (L:=[44,41,31,100]) ?_ ?_); exact rfl)
  unfold Hid
  refine wpList_storeW rfl 41 (.tmp 9) (.tmp 62) rfl b4 rfl [I VX.gen,.slice va5 VX.box.length vc5,.bool VX.busy,I VX.now.client,I VX.now.token,I VX.now.call.kind,I VX.now.call.name,I VX.now.call.other,I VX.now.call.n,.slice va6 VX.plan.length vc6,I VX.says.err,I VX.says.n] (rfl) B_b4 rfl (by kernel_rfl) rfl (fun w25_ M25=>?_)
  replace B_b0:=zwl M25 B_b0 D_b0_b4
  replace B_b1:=zwl M25 B_b1 D_b1_b4
  replace B_b2:=zwl M25 B_b2 D_b2_b4
  replace B_b3:=zwl M25 B_b3 D_b3_b4
  replace B_b4:=zwb M25
  replace H:=Lib.hid (M25.out.rdM H.out N_b4.out)
  replace N1:=zwr M25 N1 N_b4
  replace N2:=zwr M25 N2 N_b4
  replace N3:=zwr M25 N3 N_b4
  replace NB:=zwr M25 NB N_b4
  replace V5:=zwr M25 V5 N_b4
  replace V6:=zwr M25 V6 N_b4
  replace EW:=zwe M25 EW O_b4
  go_wp2_with ((with_reducible refine zst (L:=[44,41,31,100]) ?_ ?_); exact rfl)
  unfold Hid
  refine wpList_loadW rfl 41 (.tmp 9) rfl b4 rfl B_b4 Tryz.underlying41 (by kernel_rfl) (fun v68 H_v68=>?_)
  go_wp2_with ((with_reducible refine zst (L:=[44,41,31,100]) ?_ ?_); exact rfl)
  unfold Hid
  refine wpList_storeP rfl 41 (.tmp 69) (.tmp 68) rfl b0 4 rfl _ (zcv H_v68) B_b0 rfl (by kernel_rfl) rfl [.slice ca sc.length cc,.slice ua su.length uc,.slice aa sa.length ac,.slice pa sp.length pc,I VX.gen,.slice va5 VX.box.length vc5,.bool VX.busy,I VX.now.client,I VX.now.token,I VX.now.call.kind,I VX.now.call.name,I VX.now.call.other,I VX.now.call.n,.slice va6 VX.plan.length vc6,I VX.says.err,I VX.says.n,.bool up,I pause,I falls,.slice (some ⟨kb,ko,none⟩) cls.length kc] rfl (fun w26_ M26=>?_)
  replace B_b0:=zwb M26
  replace B_b1:=zwg M26 B_b1 D_b0_b1
  replace B_b2:=zwg M26 B_b2 D_b0_b2
  replace B_b3:=zwg M26 B_b3 D_b0_b3
  replace B_b4:=zwg M26 B_b4 D_b0_b4
  replace H:=Lib.hid (M26.out.rdM H.out N_b0.out)
  replace N1:=zwr M26 N1 N_b0
  replace N2:=zwr M26 N2 N_b0
  replace N3:=zwr M26 N3 N_b0
  replace NB:=zwr M26 NB N_b0
  replace V5:=zwr M26 V5 N_b0
  replace V6:=zwr M26 V6 N_b0
  replace EW:=zwe M26 EW O_b0
  go_wp2_with ((with_reducible refine zst (L:=[44,41,31,100]) ?_ ?_); exact rfl)
  unfold Hid
  refine wpList_loadW rfl 44 (.tmp 2) rfl b0 rfl B_b0 Tryz.underlying44 (by kernel_rfl) (fun v70 H_v70=>?_)
  have k1:=cell_of (i:=1) B_b1.out rfl
  go_wp2_with ((with_reducible refine zst (L:=[44,41,31,100]) ?_ ?_); exact rfl)
  unfold Hid
  clear k1
  refine wpList_loadW rfl 100 (.tmp 6) rfl b3 rfl B_b3 Tryz.underlying100 (by kernel_rfl) (fun v73 H_v73=>?_)
  go_wp2_with fail
  rw [show _ = Value.agg #[.slice ca sc.length cc,.slice ua su.length uc,.slice aa sa.length ac,.slice pa sp.length pc,I VX.gen,.slice va5 VX.box.length vc5,.bool VX.busy,I VX.now.client,I VX.now.token,I VX.now.call.kind,I VX.now.call.name,I VX.now.call.other,I VX.now.call.n,.slice va6 VX.plan.length vc6,I VX.says.err,I VX.says.n,.bool up,I pause,I falls,.slice (some ⟨kb,ko,none⟩) cls.length kc] from H_v70.out,show _ = Value.agg #[.slice na1 ol.length nc1,I oat,.bool osent,I ogen,.slice na2 xl.length nc2,.slice na3 gl.length nc3] from H_v73.out]
  have hkk:=refWith_keeps ⟨⟨sc,su,sa,sp⟩,VX,up,pause,falls,cls⟩ _ _ _ _ _ _ _ j ol oat osent ogen xl gl _ _ _ w26_ B11 ⟨H.out.cells,H.out.undo,H.out.answers,H.out.past,V5.out,V6.out,H.out.clients⟩ N1.out N2.out N3.out HQ.out.1 HQ.out.2.1
  simp only [] at hkk
  rw [HMX.out] at hkk
  refine hkk.to fun r wq eq hr=>?_
  clear hkk
  obtain ⟨cs2,rfl,hcs2⟩:=rd_agg hr
  obtain ⟨c2,u2,a2,p2,box2,plan2,cl2,rfl,hm⟩:=rd_mc hcs2
  obtain ⟨ca',cc',ua',uc',aa',ac',pa',pc',xa',xc',la',lc',ka',kc',rfl,rfl,rfl,rfl,rfl,rfl,rfl⟩:=hm.slices
  have hsz : w.heap.size + 3 ≤ w26_.heap.size:=by have q:=(Array.getElem?_eq_some_iff.1 B_b2.out).1; have q2:=A_b2.out; omega
  have hz3 : b3 < w26_.heap.size:=(Array.getElem?_eq_some_iff.1 B_b3.out).1
  have hz4 : b4 < w26_.heap.size:=(Array.getElem?_eq_some_iff.1 B_b4.out).1
  have HM:=Lib.hid (hm.widen (B:=B11) (fun k _ h=>by
   rcases h with h | h
   ·exact h
   ·exact (HB11.out k).2 ⟨(HB1.out k).2 ⟨HK.out.2.1 k (by omega),by omega⟩,by omega⟩))
  clear hr hcs2 hm hsz
  replace B_b0:=zbx B_b0 eq
  replace B_b1:=zbx B_b1 eq
  replace B_b2:=zbx B_b2 eq
  replace B_b3:=zbx B_b3 eq
  replace B_b4:=zbx B_b4 eq
  replace H:=Lib.hid (H.out.ext eq)
  replace N1:=zrx N1 eq
  replace N2:=zrx N2 eq
  replace N3:=zrx N3 eq
  replace NB:=zrx NB eq
  replace V5:=zrx V5 eq
  replace V6:=zrx V6 eq
  replace EW:=Lib.hid (EW.out.trans eq)
  go_wp2_with ((with_reducible refine zst (L:=[44,41,31,100]) ?_ ?_); exact rfl)
  unfold Hid
  refine wpList_storeW rfl 44 (.tmp 4) (.tmp 74) rfl b2 rfl [.slice ca' (RX).store.cells.length cc',.slice ua' (RX).store.undo.length uc',.slice aa' (RX).store.answers.length ac',.slice pa' (RX).store.past.length pc',I (RX).server.gen,.slice xa' (RX).server.box.length xc',.bool (RX).server.busy,I (RX).server.now.client,I (RX).server.now.token,I (RX).server.now.call.kind,I (RX).server.now.call.name,I (RX).server.now.call.other,I (RX).server.now.call.n,.slice la' (RX).server.plan.length lc',I (RX).server.says.err,I (RX).server.says.n,.bool (RX).up,I (RX).pause,I (RX).falls,.slice ka' (RX).clients.length kc'] (rfl) B_b2 rfl (by kernel_rfl) rfl (fun w27_ M27=>?_)
  replace B_b0:=zwl M27 B_b0 D_b0_b2
  replace B_b1:=zwl M27 B_b1 D_b1_b2
  replace B_b2:=zwb M27
  replace B_b3:=zwg M27 B_b3 D_b2_b3
  replace B_b4:=zwg M27 B_b4 D_b2_b4
  replace H:=Lib.hid (M27.out.rdM H.out N_b2.out)
  replace N1:=zwr M27 N1 N_b2
  replace N2:=zwr M27 N2 N_b2
  replace N3:=zwr M27 N3 N_b2
  replace NB:=zwr M27 NB N_b2
  replace V5:=zwr M27 V5 N_b2
  replace V6:=zwr M27 V6 N_b2
  replace HM:=Lib.hid (M27.out.rdM HM.out N_b2.out)
  replace EW:=zwe M27 EW O_b2
  go_wp2
  have z0:=run_box (P:=Tryz.prog) 44 B_b2.out Tryz.underlying44 (by kernel_rfl)
  refine bodyPost_ret (by simp [results,Tryz.results24,asAddr,z0]; rfl) rfl ?_
  exact ⟨_,rfl,EW.out,Rd.widen (A:=B11) (tupE_rd (RdM.mc (m:=RX) HM.out)) (fun k _ h=>HK.out.2.2.2 k (I_B1.out k (I_B11.out k h)))⟩

end Go.Proofs.YtdmipnnfooleladGreat

namespace Go.Proofs.YtdmipnnfooleladGreat
open Go.RowKit Go.Mk
set_option maxRecDepth 100000

/-- What a machine must be for its next step to be walked: no list is too long, numbers are small, cells are right where a request may be taken. -/
structure Fit (m : Mc) : Prop where
 cells : m.store.cells.length = 11
 undo : m.store.undo.length ≤ 1000
 answers : m.store.answers.length ≤ 1000
 past : m.store.past.length ≤ 1000
 right : m.up = true → m.server.busy = false → Weak m.store.cells
 clients : m.clients.length ≤ 1000
 each : ∀ c ∈ m.clients,0 ≤ c.at_ ∧ c.at_ ≤ 1000000 ∧ c.got.length ≤ 1000 ∧ c.box.length ≤ 1000
 box : m.server.box.length ≤ 1000
 falls : 0 ≤ m.falls
 gen : 0 ≤ m.server.gen ∧ m.server.gen ≤ 1000000
 pause : 0 ≤ m.pause ∧ m.pause ≤ 1000000

theorem refDo_keeps (m : Mc) (c u a p box plan cl : Value) (kind n : Int) (w : World) (A : Nat → Prop) (h : RdM A w m c u a p box plan cl) (hf : Fit m) :
  Keeps Tryz.prog 24 #[.agg (cells20 m c u a p box plan cl).toArray,.agg #[I kind,I n]] w A (fun r w'=>TupE elMc (doM m kind n).1 (doM m kind n).2 r w'):=by
 have hc:=hf.cells
 by_cases h1 : kind = 1
 ·subst h1
  by_cases hn : n < 0 ∨ (m.clients.length : Int) ≤ n
  ·exact refDo_noclient m c u a p box plan cl n w A h hn
  ·exact refDo_client m c u a p box plan cl n w A h (by omega) hf.clients (fun c hc=>⟨(hf.each c hc).1,(hf.each c hc).2.1,(hf.each c hc).2.2.1⟩) hf.box
 by_cases h2 : kind = 2
 ·subst h2
  exact refDo_server m c u a p box plan cl n w A h (by omega) (by have:=hf.undo; omega) hf.answers (by have:=hf.past; omega) hf.right hf.clients (fun c hc=>(hf.each c hc).2.2.2)
 by_cases h3 : kind = 3
 ·subst h3
  exact refDo_fall m c u a p box plan cl n w A h hf.falls
 by_cases h4 : kind = 4
 ·subst h4
  exact refDo_tick m c u a p box plan cl n w A h (by omega) hf.gen hf.pause
 exact refDo_none m c u a p box plan cl kind n w A h h1 h2 h3 h4

end Go.Proofs.YtdmipnnfooleladGreat

namespace Go.Proofs.YtdmipnnfooleladGreat
open Go.RowKit Go.Mk
set_option maxRecDepth 100000

theorem fit_of {l : List (List Cl)} (hl : rightL l) {m : Mc} {ks : List Nat} {bz : Option Nat} (h : MInv l m ks bz) {k : Nat} (hs : SizeM m k) (hk : k ≤ 1000) : Fit m where
 cells:=h.cells
 undo:=Nat.le_trans hs.undo hk
 answers:=Nat.le_trans hs.answers hk
 past:=Nat.le_trans hs.past hk
 right:=fun hu hb=>by
  have h1 : bz = none:=by
   have:=h.busy
   rw [hb] at this
   cases bz with
   | none=>rfl
   | some i=>cases this
  have h2:=h.right
  rw [h.clean hu h1] at h2
  exact weak_of h2
 clients:=by rw [h.nc]; have:=hl.1; omega
 each:=fun c hc=>by
  obtain ⟨i,hi⟩:=List.mem_iff_getElem?.1 hc
  have h1:=(h.clients i c hi).at_
  have h2:=hs.each c hc
  rw [h1]
  omega
 box:=Nat.le_trans hs.box hk
 falls:=h.falls.1
 gen:=by
  obtain ⟨g1,g2,g3⟩:=h.gens
  have hf:=h.falls
  cases hu : m.up with
  | true=>have:=g2 hu; omega
  | false=>have:=g3 hu; omega
 pause:=by
  cases hu : m.up with
  | true=>have:=h.upp hu; omega
  | false=>have:=h.down hu; omega

end Go.Proofs.YtdmipnnfooleladGreat

namespace Go.Proofs.YtdmipnnfooleladGreat
open Go.RowKit Go.Mk
set_option maxRecDepth 100000

/-- Boxes of bytes, place by place. -/
theorem bss_form {w : World} {v : Value} {l : List (List UInt8)} (h : RowOf 1 elBs w v l) : ∃ ao cap,v = .slice ao l.length cap ∧ l.length ≤ cap ∧ cap ≤ maxLen ∧
  ∀ k x,l[k]? = some x → ∃ b off bv,ao = some ⟨b,off,none⟩ ∧ w.cell? ⟨b,off + k,none⟩ = some bv ∧ Bytes w bv x:=by
 obtain ⟨ao,cap,h1,h2,h3,-,h5⟩:=h.form (by decide)
 refine ⟨ao,cap,h1,h2,h3,fun k x hx=>?_⟩
 obtain ⟨b,off,c,e,-,⟨bv,rfl,hb⟩,hcell⟩:=h5 k x hx
 refine ⟨b,off,bv,e,?_,hb⟩
 have:=hcell 0 bv rfl
 rwa [Nat.mul_one,Nat.add_zero] at this

set_option maxHeartbeats 1000000 in
theorem sameBytes_eq (u v : Value) (xs : List (List UInt8)) (w : World) (hu : RowOf 1 elBs w u xs) (hv : RowOf 1 elBs w v xs) :
  Calls Tryz.prog 26 #[u,v] w fun e w'=>e = .returned (.bool true) ∧ Ext w w':=by
 obtain ⟨ua,uc,rfl,u1,u2,u3⟩:=bss_form hu
 obtain ⟨va,vc,rfl,v1,v2,v3⟩:=bss_form hv
 unfold maxLen at u2 v2
 have U3:=Lib.hid u3
 have V3:=Lib.hid v3
 clear u3 v3 hu hv
 go_enter Tryz.func26,Tryz.ntmps26
 go_wp2
 go_loopw [13] (fun i wr=>∃ k : Nat,k ≤ xs.length ∧ i = I k ∧ Ext w wr) (fun i _=>xs.length - (intOf i).toNat)
 case atStart=>exact ⟨0,by omega,rfl,Ext.refl _⟩
 case round =>
  obtain ⟨k,hk,rfl,he⟩:=hrel
  by_cases hlt : k < xs.length
  ·obtain ⟨x,hx⟩ : ∃ x,xs[k]? = some x:=⟨xs[k],List.getElem?_eq_getElem hlt⟩
   obtain ⟨b,off,v1,rfl,c1,h1⟩:=U3.out k x hx
   obtain ⟨b',off',v2,rfl,c2,h2⟩:=V3.out k x hx
   clear hx
   replace c1:=he.cell c1
   replace c2:=he.cell c2
   replace h1:=h1.ext he
   replace h2:=h2.ext he
   go_wp2_with fail
   refine wp_region_mono [none,none,none,none,some (.inl (.string ⟨x.toArray⟩)),none,none,none,none,some (.inl (.string ⟨x.toArray⟩)),none] (by kernel_rfl) (by kernel_rfl) ?_ ?_
   ·exact ⟨trivial,trivial,trivial,trivial,trivial,trivial,trivial,trivial,trivial,trivial,trivial,trivial⟩
   iterate 3 (refine wpM_p (fun K hK=>?_); go_simp; first | refine hK _ ?_ | refine ⟨(fun h=>by cases h),hK _ ?_⟩; clear hK K)
   refine wpM_q (v1) rfl (fun w' hw'=>by have q0:=hw'.cell c1; go_simp) ?_
   refine wpM_norm (fun K hK=>?_); go_simp; refine hK _ ?_; clear hK K
   refine wpM_x _ rfl (fun w' hw' hk=>?_) ?_
   ·have hcv:=run_string_of (P:=Tryz.prog) (h1.ext hw') Tryz.underlying24 Tryz.underlying5 Tryz.underlying9
    clear hk
    unfold makes
    go_simp
    exact ⟨Ext.refl _,rfl⟩
   refine wpM_norm (fun K hK=>?_); go_simp; refine hK _ ?_; clear hK K
   iterate 3 (refine wpM_p (fun K hK=>?_); go_simp; first | refine hK _ ?_ | refine ⟨(fun h=>by cases h),hK _ ?_⟩; clear hK K)
   refine wpM_q (v2) rfl (fun w' hw'=>by have q0:=hw'.cell c2; go_simp) ?_
   refine wpM_norm (fun K hK=>?_); go_simp; refine hK _ ?_; clear hK K
   refine wpM_x _ rfl (fun w' hw' hk=>?_) ?_
   ·have hcv:=run_string_of (P:=Tryz.prog) (h2.ext hw') Tryz.underlying24 Tryz.underlying5 Tryz.underlying9
    clear hk
    unfold makes
    go_simp
    exact ⟨Ext.refl _,rfl⟩
   refine wpM_norm (fun K hK=>?_); go_simp; refine hK _ ?_; clear hK K
   iterate 1 (refine wpM_p (fun K hK=>?_); go_simp; first | refine hK _ ?_ | refine ⟨(fun h=>by cases h),hK _ ?_⟩; clear hK K)
   refine wpM_nil ?_
   intro wn hen _
   clear c1 c2 h1 h2
   go_wp2
   go_roundw
   case rel=>exact ⟨k + 1,by omega,by go_num,he.trans hen⟩
   case measure=>simp [intOf]; omega
  ·go_wp2
   go_ret
   exact ⟨rfl,he⟩

set_option maxHeartbeats 2000000 in
theorem sameServer_eq (v : Sv) (x1 x9 y1 y9 : Value) (w : World) (hx : RowOf 1 elBs w x1 v.box ∧ Writes w x9 v.plan) (hy : RowOf 1 elBs w y1 v.box ∧ Writes w y9 v.plan) :
  Calls Tryz.prog 10 #[.agg (cells12 v x1 x9).toArray,.agg (cells12 v y1 y9).toArray] w fun e w'=>e = .returned (.bool true) ∧ Ext w w':=by
 obtain ⟨gen,bl,busy,⟨nc,nt,⟨nk,na,no,nn⟩⟩,pl,⟨se,sn⟩⟩:=v
 simp only [cells12] at *
 have hst : Tryz.prog.stoodInHeld 36 = false:=by kernel_rfl
 have hgd : Tryz.prog.eqGuardType Tryz.prog.depth 36 = false:=by kernel_rfl
 have hst2 : Tryz.prog.stoodInHeld 39 = false:=by kernel_rfl
 have hgd2 : Tryz.prog.eqGuardType Tryz.prog.depth 39 = false:=by kernel_rfl
 have HX:=Lib.hid hx
 have HY:=Lib.hid hy
 clear hx hy
 have EW:=Lib.hid (Ext.refl w)
 go_enter Tryz.func10,Tryz.ntmps10
 go_wp2_with (with_reducible first | refine stop_load 44 ?_ | refine stop_load 41 ?_ | refine stop_load 31 ?_ | refine stop_load 100 ?_ | refine stop_store ?_ | refine stop_box ?_ | refine stop_alloc ?_ | refine stop_build ?_ | refine stop_lit ?_)
 unfold Hid
 refine wpList_boxB rfl 41 (.tmp 0) rfl #[I gen,x1,.bool busy,I nc,I nt,I nk,I na,I no,I nn,x9,I se,I sn] rfl (fun b0 w1_ M1=>?_)
 have B_b0:=Lib.hid M1.out.block
 replace EW:=Lib.hid (EW.out.trans M1.out.ext)
 go_wp2_with (with_reducible first | refine stop_load 44 ?_ | refine stop_load 41 ?_ | refine stop_load 31 ?_ | refine stop_load 100 ?_ | refine stop_store ?_ | refine stop_box ?_ | refine stop_alloc ?_ | refine stop_build ?_ | refine stop_lit ?_)
 unfold Hid
 refine wpList_boxB rfl 41 (.tmp 1) rfl #[I gen,y1,.bool busy,I nc,I nt,I nk,I na,I no,I nn,y9,I se,I sn] rfl (fun b1 w2_ M2=>?_)
 have D_b0_b1 : Hid (b0 < b1):=by unfold Hid; have q:=(Array.getElem?_eq_some_iff.1 B_b0.out).1; have q2:=M2.out.at_; omega
 replace B_b0:=Lib.hid (M2.out.old B_b0.out)
 have B_b1:=Lib.hid M2.out.block
 replace EW:=Lib.hid (EW.out.trans M2.out.ext)
 have c0:=cell_of (i:=0) B_b0.out rfl
 have d0:=cell_of (i:=0) B_b1.out rfl
 have c1:=cell_of (i:=1) B_b0.out rfl
 have d1:=cell_of (i:=1) B_b1.out rfl
 have c2:=cell_of (i:=2) B_b0.out rfl
 have d2:=cell_of (i:=2) B_b1.out rfl
 have c3:=cell_of (i:=3) B_b0.out rfl
 have d3:=cell_of (i:=3) B_b1.out rfl
 have c4:=cell_of (i:=4) B_b0.out rfl
 have d4:=cell_of (i:=4) B_b1.out rfl
 have c5:=cell_of (i:=5) B_b0.out rfl
 have d5:=cell_of (i:=5) B_b1.out rfl
 have c6:=cell_of (i:=6) B_b0.out rfl
 have d6:=cell_of (i:=6) B_b1.out rfl
 have c7:=cell_of (i:=7) B_b0.out rfl
 have d7:=cell_of (i:=7) B_b1.out rfl
 have c8:=cell_of (i:=8) B_b0.out rfl
 have d8:=cell_of (i:=8) B_b1.out rfl
 have c9:=cell_of (i:=9) B_b0.out rfl
 have d9:=cell_of (i:=9) B_b1.out rfl
 have c10:=cell_of (i:=10) B_b0.out rfl
 have d10:=cell_of (i:=10) B_b1.out rfl
 have c11:=cell_of (i:=11) B_b0.out rfl
 have d11:=cell_of (i:=11) B_b1.out rfl
 go_wp2_with fail
 clear c0 c1 c2 c3 c4 c5 c6 c7 c8 c9 c10 c11 d0 d1 d2 d3 d4 d5 d6 d7 d8 d9 d10 d11
 refine Calls.exts (sameBytes_eq _ _ bl w2_ (HX.out.1.ext monoBs EW.out) (HY.out.1.ext monoBs EW.out)) (fun wa ea=>?_)
 replace B_b0:=Lib.hid (blk_ext B_b0.out ea)
 replace B_b1:=Lib.hid (blk_ext B_b1.out ea)
 replace EW:=Lib.hid (EW.out.trans ea)
 have c0:=cell_of (i:=0) B_b0.out rfl
 have d0:=cell_of (i:=0) B_b1.out rfl
 have c1:=cell_of (i:=1) B_b0.out rfl
 have d1:=cell_of (i:=1) B_b1.out rfl
 have c2:=cell_of (i:=2) B_b0.out rfl
 have d2:=cell_of (i:=2) B_b1.out rfl
 have c3:=cell_of (i:=3) B_b0.out rfl
 have d3:=cell_of (i:=3) B_b1.out rfl
 have c4:=cell_of (i:=4) B_b0.out rfl
 have d4:=cell_of (i:=4) B_b1.out rfl
 have c5:=cell_of (i:=5) B_b0.out rfl
 have d5:=cell_of (i:=5) B_b1.out rfl
 have c6:=cell_of (i:=6) B_b0.out rfl
 have d6:=cell_of (i:=6) B_b1.out rfl
 have c7:=cell_of (i:=7) B_b0.out rfl
 have d7:=cell_of (i:=7) B_b1.out rfl
 have c8:=cell_of (i:=8) B_b0.out rfl
 have d8:=cell_of (i:=8) B_b1.out rfl
 have c9:=cell_of (i:=9) B_b0.out rfl
 have d9:=cell_of (i:=9) B_b1.out rfl
 have c10:=cell_of (i:=10) B_b0.out rfl
 have d10:=cell_of (i:=10) B_b1.out rfl
 have c11:=cell_of (i:=11) B_b0.out rfl
 have d11:=cell_of (i:=11) B_b1.out rfl
 go_wp2_with fail
 clear c0 c1 c2 c3 c4 c5 c6 c7 c8 c9 c10 c11 d0 d1 d2 d3 d4 d5 d6 d7 d8 d9 d10 d11
 refine (sameWrites_eq rfl (HX.out.2.ext EW.out) (HY.out.2.ext EW.out)).to fun r wb eb hr=>?_
 subst hr
 replace B_b0:=Lib.hid (blk_ext B_b0.out eb)
 replace B_b1:=Lib.hid (blk_ext B_b1.out eb)
 replace EW:=Lib.hid (EW.out.trans eb)
 have c0:=cell_of (i:=0) B_b0.out rfl
 have d0:=cell_of (i:=0) B_b1.out rfl
 have c1:=cell_of (i:=1) B_b0.out rfl
 have d1:=cell_of (i:=1) B_b1.out rfl
 have c2:=cell_of (i:=2) B_b0.out rfl
 have d2:=cell_of (i:=2) B_b1.out rfl
 have c3:=cell_of (i:=3) B_b0.out rfl
 have d3:=cell_of (i:=3) B_b1.out rfl
 have c4:=cell_of (i:=4) B_b0.out rfl
 have d4:=cell_of (i:=4) B_b1.out rfl
 have c5:=cell_of (i:=5) B_b0.out rfl
 have d5:=cell_of (i:=5) B_b1.out rfl
 have c6:=cell_of (i:=6) B_b0.out rfl
 have d6:=cell_of (i:=6) B_b1.out rfl
 have c7:=cell_of (i:=7) B_b0.out rfl
 have d7:=cell_of (i:=7) B_b1.out rfl
 have c8:=cell_of (i:=8) B_b0.out rfl
 have d8:=cell_of (i:=8) B_b1.out rfl
 have c9:=cell_of (i:=9) B_b0.out rfl
 have d9:=cell_of (i:=9) B_b1.out rfl
 have c10:=cell_of (i:=10) B_b0.out rfl
 have d10:=cell_of (i:=10) B_b1.out rfl
 have c11:=cell_of (i:=11) B_b0.out rfl
 have d11:=cell_of (i:=11) B_b1.out rfl
 go_wp2
 go_ret
 exact ⟨rfl,EW.out⟩

end Go.Proofs.YtdmipnnfooleladGreat
