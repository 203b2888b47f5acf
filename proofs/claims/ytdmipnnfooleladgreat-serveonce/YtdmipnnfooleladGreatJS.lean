/- Texts of the proof, merged: N12 N13 N14 N15 N16. -/
import Derived.Test.YtdmipnnfooleladGreatJR
import Derived.Deep.DeepCutAuto
import Derived.Test.YtdmipnnfooleladGreatJD
import Derived.Test.YtdmipnnfooleladGreatJN
import Derived.Test.YtdmipnnfooleladGreatJG

namespace Go.Proofs.YtdmipnnfooleladGreat
open Go.RowKit Go.Mk
set_option maxRecDepth 100000

set_option maxHeartbeats 2000000 in
theorem refDo_noclient (m : Mc) (c u a p box plan cl : Value) (n : Int) (w : World) (A : Nat → Prop) (h : RdM A w m c u a p box plan cl) (hn : n < 0 ∨ (m.clients.length : Int) ≤ n) :
  Keeps Tryz.prog 24 #[.agg (cells20 m c u a p box plan cl).toArray,.agg #[I 1,I n]] w A (fun r w'=>TupE elMc (doM m 1 n).1 (doM m 1 n).2 r w'):=by
 unfold Keeps
 obtain ⟨ca,cc,ua,uc,aa,ac,pa,pc,xa,xc,la,lc,ka,kc,rfl,rfl,rfl,rfl,rfl,rfl,rfl⟩:=h.slices
 obtain ⟨⟨sc,su,sa,sp⟩,⟨gen,bl,busy,⟨nc,nt,⟨nk,na,no,nn⟩⟩,pl,⟨se,sn⟩⟩,up,pause,falls,cls⟩:=m
 simp only [cells20] at *
 have EW:=Lib.hid (Ext.refl w)
 obtain ⟨B,hB⟩:=away A w.heap.size 3
 have HK:=Lib.hid hB
 clear hB
 have H:=Lib.hid (h.widen HK.out.1)
 clear h
 have hX : doM ⟨⟨sc,su,sa,sp⟩,⟨gen,bl,busy,⟨nc,nt,⟨nk,na,no,nn⟩⟩,pl,⟨se,sn⟩⟩,up,pause,falls,cls⟩ 1 n = (⟨⟨sc,su,sa,sp⟩,⟨gen,bl,busy,⟨nc,nt,⟨nk,na,no,nn⟩⟩,pl,⟨se,sn⟩⟩,up,pause,falls,cls⟩,6):=by
  unfold doM
  rw [if_pos rfl,if_pos hn]
 rw [hX]
 clear hX
 by_cases h0 : n < 0
 case pos =>
  clear hn
  go_enter Tryz.func24,Tryz.ntmps24
  go_wp2_with ((with_reducible refine zst (L:=[44,41,31,100]) ?_ ?_); exact rfl)
  unfold Hid
  refine wpList_boxB rfl 44 (.tmp 0) rfl #[.slice ca sc.length cc,.slice ua su.length uc,.slice aa sa.length ac,.slice pa sp.length pc,I gen,.slice xa bl.length xc,.bool busy,I nc,I nt,I nk,I na,I no,I nn,.slice la pl.length lc,I se,I sn,.bool up,I pause,I falls,.slice ka cls.length kc] rfl (fun b0 w1_ M1=>?_)
  have B_b0:=zmb M1
  replace H:=Lib.hid (H.out.ext M1.out.ext)
  replace EW:=zet EW M1
  go_wp2_with ((with_reducible refine zst (L:=[44,41,31,100]) ?_ ?_); exact rfl)
  unfold Hid
  refine wpList_boxB rfl 72 (.tmp 1) rfl #[I 1,I n] rfl (fun b1 w2_ M2=>?_)
  have D_b0_b1:=zld B_b0 M2
  replace B_b0:=zmo M2 B_b0
  have B_b1:=zmb M2
  replace H:=Lib.hid (H.out.ext M2.out.ext)
  replace EW:=zet EW M2
  go_wp2_with ((with_reducible refine zst (L:=[44,41,31,100]) ?_ ?_); exact rfl)
  unfold Hid
  refine wpList_allocB rfl 44 #[.slice none 0 0,.slice none 0 0,.slice none 0 0,.slice none 0 0,I 0,.slice none 0 0,.bool false,I 0,I 0,I 0,I 0,I 0,I 0,.slice none 0 0,I 0,I 0,.bool false,I 0,I 0,.slice none 0 0] (by kernel_rfl) (fun b2 w3_ M3=>?_)
  have D_b0_b2:=zld B_b0 M3
  have D_b1_b2:=zld B_b1 M3
  replace B_b0:=zmo M3 B_b0
  replace B_b1:=zmo M3 B_b1
  have B_b2:=zmb M3
  replace H:=Lib.hid (H.out.ext M3.out.ext)
  replace EW:=zet EW M3
  have A_b0 : Hid (b0 = w.heap.size + 0):=by unfold Hid; have q0:=M1.out.at_; have r0:=M1.out.size; omega
  have N_b0:=znb HK A_b0 (by decide)
  have O_b0:=zob A_b0
  have A_b1 : Hid (b1 = w.heap.size + 1):=by unfold Hid; have q0:=M1.out.at_; have r0:=M1.out.size; have q1:=M2.out.at_; have r1:=M2.out.size; omega
  have N_b1:=znb HK A_b1 (by decide)
  have O_b1:=zob A_b1
  have A_b2 : Hid (b2 = w.heap.size + 2):=by unfold Hid; have q0:=M1.out.at_; have r0:=M1.out.size; have q1:=M2.out.at_; have r1:=M2.out.size; have q2:=M3.out.at_; have r2:=M3.out.size; omega
  have N_b2:=znb HK A_b2 (by decide)
  have O_b2:=zob A_b2
  have k0:=cell_of (i:=0) B_b1.out rfl
  have k1:=cell_of (i:=1) B_b1.out rfl
  go_wp2_with ((with_reducible refine zst (L:=[44,41,31,100]) ?_ ?_); exact rfl)
  unfold Hid
  clear k0 k1
  refine wpList_loadW rfl 44 (.tmp 2) rfl b0 rfl B_b0 Tryz.underlying44 (by kernel_rfl) (fun v31 H_v31=>?_)
  go_wp2_with ((with_reducible refine zst (L:=[44,41,31,100]) ?_ ?_); exact rfl)
  unfold Hid
  refine wpList_storeW rfl 44 (.tmp 4) (.tmp 31) rfl b2 rfl _ (zcv H_v31) B_b2 rfl (by kernel_rfl) rfl (fun w4_ M4=>?_)
  replace B_b0:=zwl M4 B_b0 D_b0_b2
  replace B_b1:=zwl M4 B_b1 D_b1_b2
  replace B_b2:=zwb M4
  replace H:=Lib.hid (M4.out.rdM H.out N_b2.out)
  replace EW:=zwe M4 EW O_b2
  go_wp2
  have z0:=run_box (P:=Tryz.prog) 44 B_b2.out Tryz.underlying44 (by kernel_rfl)
  refine bodyPost_ret (by simp [results,Tryz.results24,asAddr,z0]; rfl) rfl ?_
  exact ⟨_,rfl,EW.out,Rd.widen (A:=B) (tupE_rd (RdM.mc (m:=⟨⟨sc,su,sa,sp⟩,⟨gen,bl,busy,⟨nc,nt,⟨nk,na,no,nn⟩⟩,pl,⟨se,sn⟩⟩,up,pause,falls,cls⟩) H.out)) (fun k _ h=>HK.out.2.2.2 k h)⟩
 have hge : (cls.length : Int) ≤ n:=by
  rcases hn with h | h
  ·exact absurd h h0
  ·exact h
 clear hn
 go_enter Tryz.func24,Tryz.ntmps24
 go_wp2_with ((with_reducible refine zst (L:=[44,41,31,100]) ?_ ?_); exact rfl)
 unfold Hid
 refine wpList_boxB rfl 44 (.tmp 0) rfl #[.slice ca sc.length cc,.slice ua su.length uc,.slice aa sa.length ac,.slice pa sp.length pc,I gen,.slice xa bl.length xc,.bool busy,I nc,I nt,I nk,I na,I no,I nn,.slice la pl.length lc,I se,I sn,.bool up,I pause,I falls,.slice ka cls.length kc] rfl (fun b0 w1_ M1=>?_)
 have B_b0:=zmb M1
 replace H:=Lib.hid (H.out.ext M1.out.ext)
 replace EW:=zet EW M1
 go_wp2_with ((with_reducible refine zst (L:=[44,41,31,100]) ?_ ?_); exact rfl)
 unfold Hid
 refine wpList_boxB rfl 72 (.tmp 1) rfl #[I 1,I n] rfl (fun b1 w2_ M2=>?_)
 have D_b0_b1:=zld B_b0 M2
 replace B_b0:=zmo M2 B_b0
 have B_b1:=zmb M2
 replace H:=Lib.hid (H.out.ext M2.out.ext)
 replace EW:=zet EW M2
 go_wp2_with ((with_reducible refine zst (L:=[44,41,31,100]) ?_ ?_); exact rfl)
 unfold Hid
 refine wpList_allocB rfl 44 #[.slice none 0 0,.slice none 0 0,.slice none 0 0,.slice none 0 0,I 0,.slice none 0 0,.bool false,I 0,I 0,I 0,I 0,I 0,I 0,.slice none 0 0,I 0,I 0,.bool false,I 0,I 0,.slice none 0 0] (by kernel_rfl) (fun b2 w3_ M3=>?_)
 have D_b0_b2:=zld B_b0 M3
 have D_b1_b2:=zld B_b1 M3
 replace B_b0:=zmo M3 B_b0
 replace B_b1:=zmo M3 B_b1
 have B_b2:=zmb M3
 replace H:=Lib.hid (H.out.ext M3.out.ext)
 replace EW:=zet EW M3
 have A_b0 : Hid (b0 = w.heap.size + 0):=by unfold Hid; have q0:=M1.out.at_; have r0:=M1.out.size; omega
 have N_b0:=znb HK A_b0 (by decide)
 have O_b0:=zob A_b0
 have A_b1 : Hid (b1 = w.heap.size + 1):=by unfold Hid; have q0:=M1.out.at_; have r0:=M1.out.size; have q1:=M2.out.at_; have r1:=M2.out.size; omega
 have N_b1:=znb HK A_b1 (by decide)
 have O_b1:=zob A_b1
 have A_b2 : Hid (b2 = w.heap.size + 2):=by unfold Hid; have q0:=M1.out.at_; have r0:=M1.out.size; have q1:=M2.out.at_; have r1:=M2.out.size; have q2:=M3.out.at_; have r2:=M3.out.size; omega
 have N_b2:=znb HK A_b2 (by decide)
 have O_b2:=zob A_b2
 have k0:=cell_of (i:=0) B_b1.out rfl
 have k1:=cell_of (i:=1) B_b1.out rfl
 have c19:=cell_of (i:=19) B_b0.out rfl
 go_wp2_with ((with_reducible refine zst (L:=[44,41,31,100]) ?_ ?_); exact rfl)
 unfold Hid
 clear k0 k1 c19
 refine wpList_loadW rfl 44 (.tmp 2) rfl b0 rfl B_b0 Tryz.underlying44 (by kernel_rfl) (fun v31 H_v31=>?_)
 go_wp2_with ((with_reducible refine zst (L:=[44,41,31,100]) ?_ ?_); exact rfl)
 unfold Hid
 refine wpList_storeW rfl 44 (.tmp 4) (.tmp 31) rfl b2 rfl _ (zcv H_v31) B_b2 rfl (by kernel_rfl) rfl (fun w4_ M4=>?_)
 replace B_b0:=zwl M4 B_b0 D_b0_b2
 replace B_b1:=zwl M4 B_b1 D_b1_b2
 replace B_b2:=zwb M4
 replace H:=Lib.hid (M4.out.rdM H.out N_b2.out)
 replace EW:=zwe M4 EW O_b2
 go_wp2
 have z0:=run_box (P:=Tryz.prog) 44 B_b2.out Tryz.underlying44 (by kernel_rfl)
 refine bodyPost_ret (by simp [results,Tryz.results24,asAddr,z0]; rfl) rfl ?_
 exact ⟨_,rfl,EW.out,Rd.widen (A:=B) (tupE_rd (RdM.mc (m:=⟨⟨sc,su,sa,sp⟩,⟨gen,bl,busy,⟨nc,nt,⟨nk,na,no,nn⟩⟩,pl,⟨se,sn⟩⟩,up,pause,falls,cls⟩) H.out)) (fun k _ h=>HK.out.2.2.2 k h)⟩

set_option maxHeartbeats 2000000 in
theorem refDo_client (m : Mc) (c u a p box plan cl : Value) (n : Int) (w : World) (A : Nat → Prop) (h : RdM A w m c u a p box plan cl) (hn : 0 ≤ n ∧ n < (m.clients.length : Int)) (hl : m.clients.length ≤ 1000) (hcs : ∀ c ∈ m.clients,0 ≤ c.at_ ∧ c.at_ ≤ 1000000 ∧ c.got.length ≤ 1000) (hbx : m.server.box.length ≤ 1000) :
  Keeps Tryz.prog 24 #[.agg (cells20 m c u a p box plan cl).toArray,.agg #[I 1,I n]] w A (fun r w'=>TupE elMc (doM m 1 n).1 (doM m 1 n).2 r w'):=by
 unfold Keeps
 obtain ⟨ca,cc,ua,uc,aa,ac,pa,pc,xa,xc,la,lc,ka,kc,rfl,rfl,rfl,rfl,rfl,rfl,rfl⟩:=h.slices
 obtain ⟨⟨sc,su,sa,sp⟩,⟨gen,bl,busy,⟨nc,nt,⟨nk,na,no,nn⟩⟩,pl,⟨se,sn⟩⟩,up,pause,falls,cls⟩:=m
 simp only [cells20] at *
 have EW:=Lib.hid (Ext.refl w)
 obtain ⟨B,hB⟩:=away A w.heap.size 3
 have HK:=Lib.hid hB
 clear hB
 have H:=Lib.hid (h.widen HK.out.1)
 clear h
 obtain ⟨j,rfl⟩ : ∃ j : Nat,n = (j : Int):=⟨n.toNat,by omega⟩
 have hkl : j < cls.length:=by omega
 have hj1 : (j : Int) < (cls.length : Int):=by omega
 have hj0 : ¬ ((j : Int) < 0):=by omega
 have hj2 : ¬ ((cls.length : Int) ≤ (j : Int)):=by omega
 have hj3 : (0 : Int) ≤ (j : Int):=by omega
 obtain ⟨css,hcs2⟩:=rd_rowOf2 (by decide) H.out.clients
 have HCS:=Lib.hid hcs2.left
 have HRW:=Lib.hid hcs2.right
 clear hcs2
 obtain ⟨c6,cx,hc6,hcx,hc6l⟩:=elem_at HCS.out.out hkl
 have hgd : cls.getD j (newCn []) = cx:=by simp [hcx]
 have HCX:=Lib.hid (rd_elem HCS.out hc6 hcx)
 have HCB:=Lib.hid (hcs cx (List.mem_of_getElem? hcx))
 obtain ⟨kcalls,kbox,kgot,hk6,q1,q2,q3⟩:=rd_cn HCX.out
 subst hk6
 obtain ⟨kb,ko,hka⟩ : ∃ b o,ka = some ⟨b,o,none⟩:=by
  obtain ⟨_,_,e1,_,_,_,hf⟩:=H.out.clients.out.form (by decide)
  simp only [Value.slice.injEq,true_and] at e1
  obtain ⟨rfl,rfl⟩:=e1
  obtain ⟨b,o,_,e2,_⟩:=hf _ _ hcx
  exact ⟨b,o,e2⟩
 subst hka
 have HRG:=Lib.hid (HRW.out.imp fun w hw=>row_cells (by decide) hw HCS.out.out.sizes hc6)
 obtain ⟨kl,kat,ksent,kgen,kbl,kgl⟩:=cx
 obtain ⟨⟨ol,oat,osent,ogen,xl,gl⟩,CB,CE,hGC⟩ : ∃ x y z,goCn ⟨kl,kat,ksent,kgen,kbl,kgl⟩ (j : Int) gen up = (x,y,z):=⟨_,_,_,rfl⟩
 obtain ⟨VX,VE,hVX⟩ : ∃ x y,comeSv ⟨gen,bl,busy,⟨nc,nt,⟨nk,na,no,nn⟩⟩,pl,⟨se,sn⟩⟩ CB = (x,y):=⟨_,_,rfl⟩
 have hX : doM ⟨⟨sc,su,sa,sp⟩,⟨gen,bl,busy,⟨nc,nt,⟨nk,na,no,nn⟩⟩,pl,⟨se,sn⟩⟩,up,pause,falls,cls⟩ 1 (j : Int) = if CE ≠ 0 then (⟨⟨sc,su,sa,sp⟩,⟨gen,bl,busy,⟨nc,nt,⟨nk,na,no,nn⟩⟩,pl,⟨se,sn⟩⟩,up,pause,falls,cls⟩,CE) else if CB ≠ [] then (if VE ≠ 0 then (⟨⟨sc,su,sa,sp⟩,⟨gen,bl,busy,⟨nc,nt,⟨nk,na,no,nn⟩⟩,pl,⟨se,sn⟩⟩,up,pause,falls,cls⟩,VE) else (⟨⟨sc,su,sa,sp⟩,VX,up,pause,falls,(cls.set j ⟨ol,oat,osent,ogen,xl,gl⟩)⟩,0)) else (⟨⟨sc,su,sa,sp⟩,⟨gen,bl,busy,⟨nc,nt,⟨nk,na,no,nn⟩⟩,pl,⟨se,sn⟩⟩,up,pause,falls,(cls.set j ⟨ol,oat,osent,ogen,xl,gl⟩)⟩,0):=by
  unfold doM
  rw [if_pos rfl,if_neg (by simp only []; omega)]
  simp only [Int.toNat_natCast,hgd,hGC,hVX]
 obtain ⟨RX,RE,hRES⟩ : ∃ x y,doM ⟨⟨sc,su,sa,sp⟩,⟨gen,bl,busy,⟨nc,nt,⟨nk,na,no,nn⟩⟩,pl,⟨se,sn⟩⟩,up,pause,falls,cls⟩ 1 (j : Int) = (x,y):=⟨_,_,rfl⟩
 rw [hRES]
 rw [hX] at hRES
 have HRES : Hid ((CE ≠ 0 → (⟨⟨sc,su,sa,sp⟩,⟨gen,bl,busy,⟨nc,nt,⟨nk,na,no,nn⟩⟩,pl,⟨se,sn⟩⟩,up,pause,falls,cls⟩,CE) = (RX,RE)) ∧ (CE = 0 → CB = [] → (⟨⟨sc,su,sa,sp⟩,⟨gen,bl,busy,⟨nc,nt,⟨nk,na,no,nn⟩⟩,pl,⟨se,sn⟩⟩,up,pause,falls,(cls.set j ⟨ol,oat,osent,ogen,xl,gl⟩)⟩,0) = (RX,RE)) ∧ (CE = 0 → CB ≠ [] → VE ≠ 0 → (⟨⟨sc,su,sa,sp⟩,⟨gen,bl,busy,⟨nc,nt,⟨nk,na,no,nn⟩⟩,pl,⟨se,sn⟩⟩,up,pause,falls,cls⟩,VE) = (RX,RE)) ∧ (CE = 0 → CB ≠ [] → VE = 0 → (⟨⟨sc,su,sa,sp⟩,VX,up,pause,falls,(cls.set j ⟨ol,oat,osent,ogen,xl,gl⟩)⟩,0) = (RX,RE))):=by
  refine ⟨fun h=>?_,fun h h2=>?_,fun h h2 h3=>?_,fun h h2 h3=>?_⟩
  ·rwa [if_pos h] at hRES
  ·rwa [if_neg (by simpa using h),if_neg (by simpa using h2)] at hRES
  ·rwa [if_neg (by simpa using h),if_pos h2,if_pos h3] at hRES
  ·rwa [if_neg (by simpa using h),if_pos h2,if_neg (by simpa using h3)] at hRES
 clear hRES
 have HC1:=Lib.hid q1
 have HC2:=Lib.hid q2
 have HC3:=Lib.hid q3
 have HGC:=Lib.hid hGC
 have HVX:=Lib.hid hVX
 have HQ:=Lib.hid (And.intro hkl (And.intro hl hbx))
 clear hgd hc6 hcx hc6l HRW HCS HCX q1 q2 q3 hGC hVX hX hkl hl hbx hcs hn
 simp only [] at *
 go_enter Tryz.func24,Tryz.ntmps24
 go_wp2_with ((with_reducible refine zst (L:=[44,41,31,100]) ?_ ?_); exact rfl)
 unfold Hid
 refine wpList_boxB rfl 44 (.tmp 0) rfl #[.slice ca sc.length cc,.slice ua su.length uc,.slice aa sa.length ac,.slice pa sp.length pc,I gen,.slice xa bl.length xc,.bool busy,I nc,I nt,I nk,I na,I no,I nn,.slice la pl.length lc,I se,I sn,.bool up,I pause,I falls,.slice (some ⟨kb,ko,none⟩) cls.length kc] rfl (fun b0 w1_ M1=>?_)
 have B_b0:=zmb M1
 replace H:=Lib.hid (H.out.ext M1.out.ext)
 replace HC1:=zme M1 HC1
 replace HC2:=zme M1 HC2
 replace HC3:=zme M1 HC3
 replace HRG:=zme M1 HRG
 replace EW:=zet EW M1
 go_wp2_with ((with_reducible refine zst (L:=[44,41,31,100]) ?_ ?_); exact rfl)
 unfold Hid
 refine wpList_boxB rfl 72 (.tmp 1) rfl #[I 1,I j] rfl (fun b1 w2_ M2=>?_)
 have D_b0_b1:=zld B_b0 M2
 replace B_b0:=zmo M2 B_b0
 have B_b1:=zmb M2
 replace H:=Lib.hid (H.out.ext M2.out.ext)
 replace HC1:=zme M2 HC1
 replace HC2:=zme M2 HC2
 replace HC3:=zme M2 HC3
 replace HRG:=zme M2 HRG
 replace EW:=zet EW M2
 go_wp2_with ((with_reducible refine zst (L:=[44,41,31,100]) ?_ ?_); exact rfl)
 unfold Hid
 refine wpList_allocB rfl 44 #[.slice none 0 0,.slice none 0 0,.slice none 0 0,.slice none 0 0,I 0,.slice none 0 0,.bool false,I 0,I 0,I 0,I 0,I 0,I 0,.slice none 0 0,I 0,I 0,.bool false,I 0,I 0,.slice none 0 0] (by kernel_rfl) (fun b2 w3_ M3=>?_)
 have D_b0_b2:=zld B_b0 M3
 have D_b1_b2:=zld B_b1 M3
 replace B_b0:=zmo M3 B_b0
 replace B_b1:=zmo M3 B_b1
 have B_b2:=zmb M3
 replace H:=Lib.hid (H.out.ext M3.out.ext)
 replace HC1:=zme M3 HC1
 replace HC2:=zme M3 HC2
 replace HC3:=zme M3 HC3
 replace HRG:=zme M3 HRG
 replace EW:=zet EW M3
 have A_b0 : Hid (b0 = w.heap.size + 0):=by unfold Hid; have q0:=M1.out.at_; have r0:=M1.out.size; omega
 have N_b0:=znb HK A_b0 (by decide)
 have O_b0:=zob A_b0
 have A_b1 : Hid (b1 = w.heap.size + 1):=by unfold Hid; have q0:=M1.out.at_; have r0:=M1.out.size; have q1:=M2.out.at_; have r1:=M2.out.size; omega
 have N_b1:=znb HK A_b1 (by decide)
 have O_b1:=zob A_b1
 have A_b2 : Hid (b2 = w.heap.size + 2):=by unfold Hid; have q0:=M1.out.at_; have r0:=M1.out.size; have q1:=M2.out.at_; have r1:=M2.out.size; have q2:=M3.out.at_; have r2:=M3.out.size; omega
 have N_b2:=znb HK A_b2 (by decide)
 have O_b2:=zob A_b2
 have k0:=cell_of (i:=0) B_b1.out rfl
 have k1:=cell_of (i:=1) B_b1.out rfl
 have c19:=cell_of (i:=19) B_b0.out rfl
 go_upto_region 5 with fail
 clear k0 k1 c19
 have hszk : w.heap.size + 3 ≤ w3_.heap.size:=by have q:=(Array.getElem?_eq_some_iff.1 B_b2.out).1; have q2:=A_b2.out; omega
 have HSZK:=Lib.hid hszk
 clear hszk
 go_cut [6,7,8] (fun p6 b7 e8 wc=>∃ (b3 : Nat) (cs : List Value),p6 = .pointer (some ⟨b3,0,none⟩) ∧ e8 = I CE ∧ w3_.heap.size ≤ b3 ∧ wc.heap[b3]? = some (.cells cs.toArray 100 (0,0)) ∧ Ext w3_ wc ∧ Rd (fun k=>B k ∧ k ≠ b3) (fun w=>elCn w cs ⟨ol,oat,osent,ogen,xl,gl⟩) wc ∧ Rd (fun k=>B k ∧ k ≠ b3) (fun w=>Bytes w b7 CB) wc)
 case first =>
  go_wp2_with fail
  refine held_drew (S:=fun w'=>w'.heap[b0]? = some (.cells #[.slice ca sc.length cc,.slice ua su.length uc,.slice aa sa.length ac,.slice pa sp.length pc,I gen,.slice xa bl.length xc,.bool busy,I nc,I nt,I nk,I na,I no,I nn,.slice la pl.length lc,I se,I sn,.bool up,I pause,I falls,.slice (some ⟨kb,ko,none⟩) cls.length kc] 44 (0,0)) ∧ w'.heap[b1]? = some (.cells #[I 1,I j] 72 (0,0)) ∧ w'.rangeAt kb (ko + j * 6) [kcalls,I kat,.bool ksent,I kgen,kbox,kgot]) (by kernel_rfl) (fun wd ed _=>?_)
  replace B_b0:=zbx B_b0 ed
  replace B_b1:=zbx B_b1 ed
  replace B_b2:=zbx B_b2 ed
  replace H:=Lib.hid (H.out.ext ed)
  replace HC1:=zrx HC1 ed
  replace HC2:=zrx HC2 ed
  replace HC3:=zrx HC3 ed
  replace HRG:=zrx HRG ed
  replace EW:=Lib.hid (EW.out.trans ed)
  have hlek : w3_.heap.size ≤ wd.heap.size:=ed.size
  have HED:=Lib.hid ed
  have HLEK:=Lib.hid hlek
  clear hlek
  have HSS : Hid (wd.heap[b0]? = some (.cells #[.slice ca sc.length cc,.slice ua su.length uc,.slice aa sa.length ac,.slice pa sp.length pc,I gen,.slice xa bl.length xc,.bool busy,I nc,I nt,I nk,I na,I no,I nn,.slice la pl.length lc,I se,I sn,.bool up,I pause,I falls,.slice (some ⟨kb,ko,none⟩) cls.length kc] 44 (0,0)) ∧ wd.heap[b1]? = some (.cells #[I 1,I j] 72 (0,0)) ∧ wd.rangeAt kb (ko + j * 6) [kcalls,I kat,.bool ksent,I kgen,kbox,kgot]):=⟨B_b0.out,B_b1.out,HRG.out.out⟩
  refine held_pure 0 rfl (by kernel_rfl) (by kernel_rfl) (by kernel_rfl) (fun _ _ _ _ h=>h) rfl HSS.out (fun K hK=>?_); go_simp; refine hK _ ?_; clear hK K
  refine held_take 1 rfl (by kernel_rfl) (by kernel_rfl) (by kernel_rfl) (fun _ _ _ _ h=>h) (.slice (some ⟨kb,ko,none⟩) cls.length kc) rfl (fun w' hS=>by have q0:=cell_of (i:=19) hS.1 rfl; go_simp) HSS.out ?_
  refine held_norm (fun K hK=>?_); go_simp; refine hK _ ?_; clear hK K
  refine held_pure 2 rfl (by kernel_rfl) (by kernel_rfl) (by kernel_rfl) (fun _ _ _ _ h=>h) rfl HSS.out (fun K hK=>?_); go_simp; refine hK _ ?_; clear hK K
  refine held_take 3 rfl (by kernel_rfl) (by kernel_rfl) (by kernel_rfl) (fun _ _ _ _ h=>h) (I j) rfl (fun w' hS=>by have q0:=cell_of (i:=1) hS.2.1 rfl; go_simp) HSS.out ?_
  refine held_norm (fun K hK=>?_); go_simp; refine hK _ ?_; clear hK K
  refine held_pure 4 rfl (by kernel_rfl) (by kernel_rfl) (by kernel_rfl) (fun _ _ _ _ h=>h) rfl HSS.out (fun K hK=>?_); go_simp; refine hK _ ?_; clear hK K
  refine held_take 5 rfl (by kernel_rfl) (by kernel_rfl) (by kernel_rfl) (fun _ _ _ _ h=>h) (.agg #[kcalls,I kat,.bool ksent,I kgen,kbox,kgot]) rfl (fun w' hS=>run_loadR 100 (.tmp 37) rfl kb (ko + j * 6) rfl [kcalls,I kat,.bool ksent,I kgen,kbox,kgot] hS.2.2 Tryz.underlying100 (by kernel_rfl)) HSS.out ?_
  refine held_norm (fun K hK=>?_); go_simp; refine hK _ ?_; clear hK K
  refine held_pure 6 rfl (by kernel_rfl) (by kernel_rfl) (by kernel_rfl) (fun _ _ _ _ h=>h) rfl HSS.out (fun K hK=>?_); go_simp; refine hK _ ?_; clear hK K
  refine held_take 7 rfl (by kernel_rfl) (by kernel_rfl) (by kernel_rfl) (fun _ _ _ _ h=>h) (I j) rfl (fun w' hS=>by have q0:=cell_of (i:=1) hS.2.1 rfl; go_simp) HSS.out ?_
  refine held_norm (fun K hK=>?_); go_simp; refine hK _ ?_; clear hK K
  refine held_pure 8 rfl (by kernel_rfl) (by kernel_rfl) (by kernel_rfl) (fun _ _ _ _ h=>h) rfl HSS.out (fun K hK=>?_); go_simp; refine hK _ ?_; clear hK K
  refine held_pure 9 rfl (by kernel_rfl) (by kernel_rfl) (by kernel_rfl) (fun _ _ _ _ h=>h) rfl HSS.out (fun K hK=>?_); go_simp; refine hK _ ?_; clear hK K
  refine held_take 10 rfl (by kernel_rfl) (by kernel_rfl) (by kernel_rfl) (fun _ _ _ _ h=>h) (I gen) rfl (fun w' hS=>by have q0:=cell_of (i:=4) hS.1 rfl; go_simp) HSS.out ?_
  refine held_norm (fun K hK=>?_); go_simp; refine hK _ ?_; clear hK K
  refine held_pure 11 rfl (by kernel_rfl) (by kernel_rfl) (by kernel_rfl) (fun _ _ _ _ h=>h) rfl HSS.out (fun K hK=>?_); go_simp; refine hK _ ?_; clear hK K
  refine held_take 12 rfl (by kernel_rfl) (by kernel_rfl) (by kernel_rfl) (fun _ _ _ _ h=>h) (.bool up) rfl (fun w' hS=>by have q0:=cell_of (i:=16) hS.1 rfl; go_simp) HSS.out ?_
  refine held_norm (fun K hK=>?_); go_simp; refine hK _ ?_; clear hK K
  refine held_two 13 18 (by kernel_rfl) ?_ ?_
  ·refine wpOp_call rfl rfl 45 #[.agg #[kcalls,I kat,.bool ksent,I kgen,kbox,kgot],I j,I gen,.bool up] (by go_simp) ?_
   refine (refClientGo_keeps ⟨kl,kat,ksent,kgen,kbl,kgl⟩ kcalls kbox kgot j gen up wd B HC1.out HC2.out HC3.out HCB.out.1 HCB.out.2.1 HCB.out.2.2).to fun r wg eg hr=>?_
   rw [HGC.out] at hr
   simp only [] at hr
   obtain ⟨cs,bv,rfl,hcs,hbv⟩:=rd_tup3 hr
   obtain ⟨n1,n2,n3,rfl,r1,r2,r3⟩:=rd_cn hcs
   obtain ⟨na1,nc1,rfl⟩:=rowOf_slice r1.out
   obtain ⟨na2,nc2,rfl⟩:=rowOf_slice r2.out
   obtain ⟨na3,nc3,rfl⟩:=rowOf_slice r3.out
   clear r1 r2 r3 hr
   replace B_b0:=zbx B_b0 eg
   replace B_b1:=zbx B_b1 eg
   replace B_b2:=zbx B_b2 eg
   replace H:=Lib.hid (H.out.ext eg)
   replace HC1:=zrx HC1 eg
   replace HC2:=zrx HC2 eg
   replace HC3:=zrx HC3 eg
   replace HRG:=zrx HRG eg
   replace EW:=Lib.hid (EW.out.trans eg)
   clear HSS
   refine ⟨_,rfl,⟨B_b0.out,B_b1.out,HRG.out.out⟩,?_⟩
   have HSS : Hid (wg.heap[b0]? = some (.cells #[.slice ca sc.length cc,.slice ua su.length uc,.slice aa sa.length ac,.slice pa sp.length pc,I gen,.slice xa bl.length xc,.bool busy,I nc,I nt,I nk,I na,I no,I nn,.slice la pl.length lc,I se,I sn,.bool up,I pause,I falls,.slice (some ⟨kb,ko,none⟩) cls.length kc] 44 (0,0)) ∧ wg.heap[b1]? = some (.cells #[I 1,I j] 72 (0,0)) ∧ wg.rangeAt kb (ko + j * 6) [kcalls,I kat,.bool ksent,I kgen,kbox,kgot]):=⟨B_b0.out,B_b1.out,HRG.out.out⟩
   refine held_norm (fun K hK=>?_); go_simp; refine hK _ ?_; clear hK K
   refine held_pure 14 rfl (by kernel_rfl) (by kernel_rfl) (by kernel_rfl) (fun _ _ _ _ h=>h) rfl HSS.out (fun K hK=>?_); go_simp; refine hK _ ?_; clear hK K
   refine held_pure 15 rfl (by kernel_rfl) (by kernel_rfl) (by kernel_rfl) (fun _ _ _ _ h=>h) rfl HSS.out (fun K hK=>?_); go_simp; refine hK _ ?_; clear hK K
   refine held_pure 16 rfl (by kernel_rfl) (by kernel_rfl) (by kernel_rfl) (fun _ _ _ _ h=>h) rfl HSS.out (fun K hK=>?_); go_simp; refine hK _ ?_; clear hK K
   refine held_pure 17 rfl (by kernel_rfl) (by kernel_rfl) (by kernel_rfl) (fun _ _ _ _ h=>h) rfl HSS.out (fun K hK=>?_); go_simp; refine hK _ ?_; clear hK K
   refine held_all 18 (by kernel_rfl) (wpOp_alloc rfl rfl 100 #[.slice none 0 0,I 0,.bool false,I 0,.slice none 0 0,.slice none 0 0] (by kernel_rfl) (fun b3 wa MA=>⟨?_,?_⟩))
   ·exact ⟨MA.out.old B_b0.out,MA.out.old B_b1.out,(HRG.out.ext MA.out.ext).out⟩
   have D_b0_b3 : Hid (b0 < b3):=by unfold Hid; have q:=(Array.getElem?_eq_some_iff.1 B_b0.out).1; have q2:=MA.out.at_; omega
   have D_b1_b3 : Hid (b1 < b3):=by unfold Hid; have q:=(Array.getElem?_eq_some_iff.1 B_b1.out).1; have q2:=MA.out.at_; omega
   have HB3 : Hid (w3_.heap.size ≤ b3):=by unfold Hid; have q:=HLEK.out; have q2:=MA.out.at_; have q3:=eg.size; omega
   have hw1 : ∀ k,k < wg.heap.size → (B k ∨ wd.heap.size ≤ k) → (B k ∧ k ≠ b3):=fun k hk h=>⟨by
    rcases h with h | h
    ·exact h
    ·exact HK.out.2.1 k (by have q:=HLEK.out; have q2:=HSZK.out; omega),by have q2:=MA.out.at_; omega⟩
   have HNC:=Lib.hid ((hcs.widen (B:=(fun k=>B k ∧ k ≠ b3)) hw1).ext MA.out.ext)
   have HNB:=Lib.hid ((hbv.widen (B:=(fun k=>B k ∧ k ≠ b3)) hw1).ext MA.out.ext)
   have HEX:=Lib.hid ((HED.out.trans eg).trans MA.out.ext)
   replace HRG:=Lib.hid ((HRG.out.widen (B:=(fun k=>B k ∧ k ≠ b3)) (fun k hk h=>hw1 k hk (.inl h))).ext MA.out.ext)
   replace B_b0:=Lib.hid (MA.out.old B_b0.out)
   replace B_b1:=Lib.hid (MA.out.old B_b1.out)
   have B_b3:=Lib.hid MA.out.block
   clear hcs hbv hw1 HSS
   have HSS : Hid (wa.heap[b0]? = some (.cells #[.slice ca sc.length cc,.slice ua su.length uc,.slice aa sa.length ac,.slice pa sp.length pc,I gen,.slice xa bl.length xc,.bool busy,I nc,I nt,I nk,I na,I no,I nn,.slice la pl.length lc,I se,I sn,.bool up,I pause,I falls,.slice (some ⟨kb,ko,none⟩) cls.length kc] 44 (0,0)) ∧ wa.heap[b1]? = some (.cells #[I 1,I j] 72 (0,0)) ∧ wa.rangeAt kb (ko + j * 6) [kcalls,I kat,.bool ksent,I kgen,kbox,kgot]):=⟨B_b0.out,B_b1.out,HRG.out.out⟩
   refine held_norm (fun K hK=>?_); go_simp; refine hK _ ?_; clear hK K
   refine held_store 19 (by kernel_rfl) rfl rfl 100 (.tmp 6) (.tmp 47) rfl b3 0 rfl [.slice na1 ol.length nc1,I oat,.bool osent,I ogen,.slice na2 xl.length nc2,.slice na3 gl.length nc3] rfl B_b3.out (Nat.le_of_ble_eq_true rfl) (by kernel_rfl) (ones_of rfl) #[.slice na1 ol.length nc1,I oat,.bool osent,I ogen,.slice na2 xl.length nc2,.slice na3 gl.length nc3] ((splN_eq _ _ _ (Nat.le_of_ble_eq_true rfl)).trans rfl) (fun wz MZ=>⟨?_,?_⟩)
   ·exact ⟨MZ.out.old B_b0.out (Nat.ne_of_lt D_b0_b3.out),MZ.out.old B_b1.out (Nat.ne_of_lt D_b1_b3.out),(MZ.out.rd HRG.out (fun h=>h.2 rfl)).out⟩
   clear HSS
   have HSS : Hid (wz.heap[b0]? = some (.cells #[.slice ca sc.length cc,.slice ua su.length uc,.slice aa sa.length ac,.slice pa sp.length pc,I gen,.slice xa bl.length xc,.bool busy,I nc,I nt,I nk,I na,I no,I nn,.slice la pl.length lc,I se,I sn,.bool up,I pause,I falls,.slice (some ⟨kb,ko,none⟩) cls.length kc] 44 (0,0)) ∧ wz.heap[b1]? = some (.cells #[I 1,I j] 72 (0,0)) ∧ wz.rangeAt kb (ko + j * 6) [kcalls,I kat,.bool ksent,I kgen,kbox,kgot]):=⟨MZ.out.old B_b0.out (Nat.ne_of_lt D_b0_b3.out),MZ.out.old B_b1.out (Nat.ne_of_lt D_b1_b3.out),(MZ.out.rd HRG.out (fun h=>h.2 rfl)).out⟩
   refine held_norm (fun K hK=>?_); go_simp; refine hK _ ?_; clear hK K
   refine held_value 20 (by kernel_rfl) rfl rfl _ rfl HSS.out ?_
   refine held_norm (fun K hK=>?_); go_simp; refine hK _ ?_; clear hK K
   refine held_value 21 (by kernel_rfl) rfl rfl _ rfl HSS.out ?_
   refine held_norm (fun K hK=>?_); go_simp; refine hK _ ?_; clear hK K
   refine wpAnyH_done (by kernel_rfl) ?_ _
   clear HSS
   go_wp2_with fail
   go_meet
   case rel=>exact ⟨b3,_,rfl,rfl,HB3.out,MZ.out.block,MZ.out.ext HEX.out HB3.out,MZ.out.rd HNC.out (fun h=>h.2 rfl),MZ.out.rd HNB.out (fun h=>h.2 rfl)⟩
  ·refine wpOp_alloc rfl rfl 100 #[.slice none 0 0,I 0,.bool false,I 0,.slice none 0 0,.slice none 0 0] (by kernel_rfl) (fun b3 wa MA=>⟨?_,?_⟩)
   ·exact ⟨MA.out.old B_b0.out,MA.out.old B_b1.out,(HRG.out.ext MA.out.ext).out⟩
   have D_b0_b3 : Hid (b0 < b3):=by unfold Hid; have q:=(Array.getElem?_eq_some_iff.1 B_b0.out).1; have q2:=MA.out.at_; omega
   have D_b1_b3 : Hid (b1 < b3):=by unfold Hid; have q:=(Array.getElem?_eq_some_iff.1 B_b1.out).1; have q2:=MA.out.at_; omega
   have HB3 : Hid (w3_.heap.size ≤ b3):=by unfold Hid; have q:=HLEK.out; have q2:=MA.out.at_; omega
   have hw1 : ∀ k,k < wd.heap.size → B k → (B k ∧ k ≠ b3):=fun k hk h=>⟨h,by have q2:=MA.out.at_; omega⟩
   replace HC1:=Lib.hid ((HC1.out.widen (B:=(fun k=>B k ∧ k ≠ b3)) hw1).ext MA.out.ext)
   replace HC2:=Lib.hid ((HC2.out.widen (B:=(fun k=>B k ∧ k ≠ b3)) hw1).ext MA.out.ext)
   replace HC3:=Lib.hid ((HC3.out.widen (B:=(fun k=>B k ∧ k ≠ b3)) hw1).ext MA.out.ext)
   replace HRG:=Lib.hid ((HRG.out.widen (B:=(fun k=>B k ∧ k ≠ b3)) hw1).ext MA.out.ext)
   replace B_b0:=Lib.hid (MA.out.old B_b0.out)
   replace B_b1:=Lib.hid (MA.out.old B_b1.out)
   have B_b3:=Lib.hid MA.out.block
   clear hw1 HSS
   have HSS : Hid (wa.heap[b0]? = some (.cells #[.slice ca sc.length cc,.slice ua su.length uc,.slice aa sa.length ac,.slice pa sp.length pc,I gen,.slice xa bl.length xc,.bool busy,I nc,I nt,I nk,I na,I no,I nn,.slice la pl.length lc,I se,I sn,.bool up,I pause,I falls,.slice (some ⟨kb,ko,none⟩) cls.length kc] 44 (0,0)) ∧ wa.heap[b1]? = some (.cells #[I 1,I j] 72 (0,0)) ∧ wa.rangeAt kb (ko + j * 6) [kcalls,I kat,.bool ksent,I kgen,kbox,kgot]):=⟨B_b0.out,B_b1.out,HRG.out.out⟩
   refine held_norm (fun K hK=>?_); go_simp; refine hK _ ?_; clear hK K
   refine held_call 13 (by kernel_rfl) rfl rfl 45 #[.agg #[kcalls,I kat,.bool ksent,I kgen,kbox,kgot],I j,I gen,.bool up] (by go_simp) ?_
   refine (refClientGo_keeps ⟨kl,kat,ksent,kgen,kbl,kgl⟩ kcalls kbox kgot j gen up wa (fun k=>B k ∧ k ≠ b3) HC1.out HC2.out HC3.out HCB.out.1 HCB.out.2.1 HCB.out.2.2).to fun r wg eg hr=>?_
   rw [HGC.out] at hr
   simp only [] at hr
   obtain ⟨cs,bv,rfl,hcs,hbv⟩:=rd_tup3 hr
   obtain ⟨n1,n2,n3,rfl,r1,r2,r3⟩:=rd_cn hcs
   obtain ⟨na1,nc1,rfl⟩:=rowOf_slice r1.out
   obtain ⟨na2,nc2,rfl⟩:=rowOf_slice r2.out
   obtain ⟨na3,nc3,rfl⟩:=rowOf_slice r3.out
   clear r1 r2 r3 hr
   have hw1 : ∀ k,k < wg.heap.size → ((B k ∧ k ≠ b3) ∨ wa.heap.size ≤ k) → (B k ∧ k ≠ b3):=fun k hk h=>by
    rcases h with h | h
    ·exact h
    ·have q:=HLEK.out
     have q2:=HSZK.out
     have q3:=MA.out.size
     have q4:=MA.out.at_
     exact ⟨HK.out.2.1 k (by omega),by omega⟩
   have HNC:=Lib.hid (hcs.widen (B:=(fun k=>B k ∧ k ≠ b3)) hw1)
   have HNB:=Lib.hid (hbv.widen (B:=(fun k=>B k ∧ k ≠ b3)) hw1)
   have HEX:=Lib.hid ((HED.out.trans MA.out.ext).trans eg)
   replace HRG:=Lib.hid (HRG.out.ext eg)
   replace B_b0:=Lib.hid (blk_ext B_b0.out eg)
   replace B_b1:=Lib.hid (blk_ext B_b1.out eg)
   replace B_b3:=Lib.hid (blk_ext B_b3.out eg)
   clear hcs hbv hw1 HSS
   refine ⟨_,rfl,⟨B_b0.out,B_b1.out,HRG.out.out⟩,?_⟩
   have HSS : Hid (wg.heap[b0]? = some (.cells #[.slice ca sc.length cc,.slice ua su.length uc,.slice aa sa.length ac,.slice pa sp.length pc,I gen,.slice xa bl.length xc,.bool busy,I nc,I nt,I nk,I na,I no,I nn,.slice la pl.length lc,I se,I sn,.bool up,I pause,I falls,.slice (some ⟨kb,ko,none⟩) cls.length kc] 44 (0,0)) ∧ wg.heap[b1]? = some (.cells #[I 1,I j] 72 (0,0)) ∧ wg.rangeAt kb (ko + j * 6) [kcalls,I kat,.bool ksent,I kgen,kbox,kgot]):=⟨B_b0.out,B_b1.out,HRG.out.out⟩
   refine held_norm (fun K hK=>?_); go_simp; refine hK _ ?_; clear hK K
   refine held_pure 14 rfl (by kernel_rfl) (by kernel_rfl) (by kernel_rfl) (fun _ _ _ _ h=>h) rfl HSS.out (fun K hK=>?_); go_simp; refine hK _ ?_; clear hK K
   refine held_pure 15 rfl (by kernel_rfl) (by kernel_rfl) (by kernel_rfl) (fun _ _ _ _ h=>h) rfl HSS.out (fun K hK=>?_); go_simp; refine hK _ ?_; clear hK K
   refine held_pure 16 rfl (by kernel_rfl) (by kernel_rfl) (by kernel_rfl) (fun _ _ _ _ h=>h) rfl HSS.out (fun K hK=>?_); go_simp; refine hK _ ?_; clear hK K
   refine held_pure 17 rfl (by kernel_rfl) (by kernel_rfl) (by kernel_rfl) (fun _ _ _ _ h=>h) rfl HSS.out (fun K hK=>?_); go_simp; refine hK _ ?_; clear hK K
   refine held_store 19 (by kernel_rfl) rfl rfl 100 (.tmp 6) (.tmp 47) rfl b3 0 rfl [.slice na1 ol.length nc1,I oat,.bool osent,I ogen,.slice na2 xl.length nc2,.slice na3 gl.length nc3] rfl B_b3.out (Nat.le_of_ble_eq_true rfl) (by kernel_rfl) (ones_of rfl) #[.slice na1 ol.length nc1,I oat,.bool osent,I ogen,.slice na2 xl.length nc2,.slice na3 gl.length nc3] ((splN_eq _ _ _ (Nat.le_of_ble_eq_true rfl)).trans rfl) (fun wz MZ=>⟨?_,?_⟩)
   ·exact ⟨MZ.out.old B_b0.out (Nat.ne_of_lt D_b0_b3.out),MZ.out.old B_b1.out (Nat.ne_of_lt D_b1_b3.out),(MZ.out.rd HRG.out (fun h=>h.2 rfl)).out⟩
   clear HSS
   have HSS : Hid (wz.heap[b0]? = some (.cells #[.slice ca sc.length cc,.slice ua su.length uc,.slice aa sa.length ac,.slice pa sp.length pc,I gen,.slice xa bl.length xc,.bool busy,I nc,I nt,I nk,I na,I no,I nn,.slice la pl.length lc,I se,I sn,.bool up,I pause,I falls,.slice (some ⟨kb,ko,none⟩) cls.length kc] 44 (0,0)) ∧ wz.heap[b1]? = some (.cells #[I 1,I j] 72 (0,0)) ∧ wz.rangeAt kb (ko + j * 6) [kcalls,I kat,.bool ksent,I kgen,kbox,kgot]):=⟨MZ.out.old B_b0.out (Nat.ne_of_lt D_b0_b3.out),MZ.out.old B_b1.out (Nat.ne_of_lt D_b1_b3.out),(MZ.out.rd HRG.out (fun h=>h.2 rfl)).out⟩
   refine held_norm (fun K hK=>?_); go_simp; refine hK _ ?_; clear hK K
   refine held_value 20 (by kernel_rfl) rfl rfl _ rfl HSS.out ?_
   refine held_norm (fun K hK=>?_); go_simp; refine hK _ ?_; clear hK K
   refine held_value 21 (by kernel_rfl) rfl rfl _ rfl HSS.out ?_
   refine held_norm (fun K hK=>?_); go_simp; refine hK _ ?_; clear hK K
   refine wpAnyH_done (by kernel_rfl) ?_ _
   clear HSS
   go_wp2_with fail
   go_meet
   case rel=>exact ⟨b3,_,rfl,rfl,HB3.out,MZ.out.block,MZ.out.ext HEX.out HB3.out,MZ.out.rd HNC.out (fun h=>h.2 rfl),MZ.out.rd HNB.out (fun h=>h.2 rfl)⟩
 case rest =>
  rename World=>wc
  obtain ⟨b3,cs,rfl,rfl,hb3,hblk,hex,hcn,hby⟩:=hcut
  obtain ⟨n1,n2,n3,rfl,r1,r2,r3⟩:=rd_cn hcn
  obtain ⟨na1,nc1,rfl⟩:=rowOf_slice r1.out
  obtain ⟨na2,nc2,rfl⟩:=rowOf_slice r2.out
  obtain ⟨na3,nc3,rfl⟩:=rowOf_slice r3.out
  obtain ⟨ya,yc,rfl⟩:=row_slice hby.out
  clear hcn
  by_cases he : CE = 0
  case neg =>
   have hb : (CE != 0) = true:=by simpa using he
   obtain ⟨rfl,rfl⟩:=Prod.mk.inj (HRES.out.1 he)
   clear he HRES
   obtain ⟨B1,HB1⟩ : ∃ X : Nat → Prop,Hid (∀ k,X k ↔ (B k ∧ k ≠ b3)):=⟨_,fun _=>Iff.rfl⟩
   have hnar : ∀ k,k < w3_.heap.size → B k → B1 k:=fun k hk h=>(HB1.out k).2 ⟨h,by have q2:=hb3; omega⟩
   replace H:=Lib.hid (H.out.widen (B:=B1) hnar)
   replace N_b0:=znw HB1 N_b0
   replace N_b1:=znw HB1 N_b1
   replace N_b2:=znw HB1 N_b2
   have N_b3 : Hid (¬ B1 b3):=fun h=>((HB1.out _).1 h).2 rfl
   have I_B1 : Hid (∀ k,B1 k → B k):=fun k h=>((HB1.out k).1 h).1
   clear hnar
   have D_b0_b3 : Hid (b0 < b3):=by unfold Hid; have q:=(Array.getElem?_eq_some_iff.1 B_b0.out).1; omega
   have D_b1_b3 : Hid (b1 < b3):=by unfold Hid; have q:=(Array.getElem?_eq_some_iff.1 B_b1.out).1; omega
   have D_b2_b3 : Hid (b2 < b3):=by unfold Hid; have q:=(Array.getElem?_eq_some_iff.1 B_b2.out).1; omega
   have O_b3 : Hid (w.heap.size ≤ b3):=by unfold Hid; have q:=HSZK.out; omega
   replace B_b0:=zbx B_b0 hex
   replace B_b1:=zbx B_b1 hex
   replace B_b2:=zbx B_b2 hex
   replace H:=Lib.hid (H.out.ext hex)
   replace EW:=Lib.hid (EW.out.trans hex)
   have B_b3:=Lib.hid hblk
   have N1:=Lib.hid (r1.widen (B:=B1) (fun k _ h=>(HB1.out k).2 h))
   have N2:=Lib.hid (r2.widen (B:=B1) (fun k _ h=>(HB1.out k).2 h))
   have N3:=Lib.hid (r3.widen (B:=B1) (fun k _ h=>(HB1.out k).2 h))
   have NB:=Lib.hid (hby.widen (B:=B1) (fun k _ h=>(HB1.out k).2 h))
   clear r1 r2 r3 hby hblk hex hb3 HC1 HC2 HC3 HRG
   go_wp2_with ((with_reducible refine zst (L:=[44,41,31,100]) ?_ ?_); exact rfl)
   unfold Hid
   refine wpList_loadW rfl 44 (.tmp 2) rfl b0 rfl B_b0 Tryz.underlying44 (by kernel_rfl) (fun v52 H_v52=>?_)
   go_wp2_with ((with_reducible refine zst (L:=[44,41,31,100]) ?_ ?_); exact rfl)
   unfold Hid
   refine wpList_storeW rfl 44 (.tmp 4) (.tmp 52) rfl b2 rfl _ (zcv H_v52) B_b2 rfl (by kernel_rfl) rfl (fun w24_ M24=>?_)
   replace B_b0:=zwl M24 B_b0 D_b0_b2
   replace B_b1:=zwl M24 B_b1 D_b1_b2
   replace B_b2:=zwb M24
   replace B_b3:=zwg M24 B_b3 D_b2_b3
   replace H:=Lib.hid (M24.out.rdM H.out N_b2.out)
   replace N1:=zwr M24 N1 N_b2
   replace N2:=zwr M24 N2 N_b2
   replace N3:=zwr M24 N3 N_b2
   replace NB:=zwr M24 NB N_b2
   replace EW:=zwe M24 EW O_b2
   go_wp2
   have z0:=run_box (P:=Tryz.prog) 44 B_b2.out Tryz.underlying44 (by kernel_rfl)
   refine bodyPost_ret (by simp [results,Tryz.results24,asAddr,z0]; rfl) rfl ?_
   exact ⟨_,rfl,EW.out,Rd.widen (A:=B1) (tupE_rd (RdM.mc (m:=⟨⟨sc,su,sa,sp⟩,⟨gen,bl,busy,⟨nc,nt,⟨nk,na,no,nn⟩⟩,pl,⟨se,sn⟩⟩,up,pause,falls,cls⟩) H.out)) (fun k _ h=>HK.out.2.2.2 k (I_B1.out k h))⟩
  subst he
  by_cases hcb : CB = []
  case pos =>
   subst hcb
   obtain ⟨hMX,rfl⟩:=Prod.mk.inj (HRES.out.2.1 rfl rfl)
   have HMX:=Lib.hid hMX
   clear hMX HRES
   obtain ⟨B1,HB1⟩ : ∃ X : Nat → Prop,Hid (∀ k,X k ↔ (B k ∧ k ≠ b3)):=⟨_,fun _=>Iff.rfl⟩
   have hnar : ∀ k,k < w3_.heap.size → B k → B1 k:=fun k hk h=>(HB1.out k).2 ⟨h,by have q2:=hb3; omega⟩
   replace H:=Lib.hid (H.out.widen (B:=B1) hnar)
   replace N_b0:=znw HB1 N_b0
   replace N_b1:=znw HB1 N_b1
   replace N_b2:=znw HB1 N_b2
   have N_b3 : Hid (¬ B1 b3):=fun h=>((HB1.out _).1 h).2 rfl
   have I_B1 : Hid (∀ k,B1 k → B k):=fun k h=>((HB1.out k).1 h).1
   clear hnar
   have D_b0_b3 : Hid (b0 < b3):=by unfold Hid; have q:=(Array.getElem?_eq_some_iff.1 B_b0.out).1; omega
   have D_b1_b3 : Hid (b1 < b3):=by unfold Hid; have q:=(Array.getElem?_eq_some_iff.1 B_b1.out).1; omega
   have D_b2_b3 : Hid (b2 < b3):=by unfold Hid; have q:=(Array.getElem?_eq_some_iff.1 B_b2.out).1; omega
   have O_b3 : Hid (w.heap.size ≤ b3):=by unfold Hid; have q:=HSZK.out; omega
   replace B_b0:=zbx B_b0 hex
   replace B_b1:=zbx B_b1 hex
   replace B_b2:=zbx B_b2 hex
   replace H:=Lib.hid (H.out.ext hex)
   replace EW:=Lib.hid (EW.out.trans hex)
   have B_b3:=Lib.hid hblk
   have N1:=Lib.hid (r1.widen (B:=B1) (fun k _ h=>(HB1.out k).2 h))
   have N2:=Lib.hid (r2.widen (B:=B1) (fun k _ h=>(HB1.out k).2 h))
   have N3:=Lib.hid (r3.widen (B:=B1) (fun k _ h=>(HB1.out k).2 h))
   have NB:=Lib.hid (hby.widen (B:=B1) (fun k _ h=>(HB1.out k).2 h))
   clear r1 r2 r3 hby hblk hex hb3 HC1 HC2 HC3 HRG
   go_wp2_with ((with_reducible refine zst (L:=[44,41,31,100]) ?_ ?_); exact rfl)
   unfold Hid
   refine wpList_loadW rfl 44 (.tmp 2) rfl b0 rfl B_b0 Tryz.underlying44 (by kernel_rfl) (fun v70 H_v70=>?_)
   have k1:=cell_of (i:=1) B_b1.out rfl
   go_wp2_with ((with_reducible refine zst (L:=[44,41,31,100]) ?_ ?_); exact rfl)
   unfold Hid
   clear k1
   refine wpList_loadW rfl 100 (.tmp 6) rfl b3 rfl B_b3 Tryz.underlying100 (by kernel_rfl) (fun v73 H_v73=>?_)
   go_wp2_with fail
   rw [show _ = Value.agg #[.slice ca sc.length cc,.slice ua su.length uc,.slice aa sa.length ac,.slice pa sp.length pc,I gen,.slice xa bl.length xc,.bool busy,I nc,I nt,I nk,I na,I no,I nn,.slice la pl.length lc,I se,I sn,.bool up,I pause,I falls,.slice (some ⟨kb,ko,none⟩) cls.length kc] from H_v70.out,show _ = Value.agg #[.slice na1 ol.length nc1,I oat,.bool osent,I ogen,.slice na2 xl.length nc2,.slice na3 gl.length nc3] from H_v73.out]
   have hkk:=refWith_keeps ⟨⟨sc,su,sa,sp⟩,⟨gen,bl,busy,⟨nc,nt,⟨nk,na,no,nn⟩⟩,pl,⟨se,sn⟩⟩,up,pause,falls,cls⟩ _ _ _ _ _ _ _ j ol oat osent ogen xl gl _ _ _ wc B1 ⟨H.out.cells,H.out.undo,H.out.answers,H.out.past,H.out.box,H.out.plan,H.out.clients⟩ N1.out N2.out N3.out HQ.out.1 HQ.out.2.1
   simp only [] at hkk
   rw [HMX.out] at hkk
   refine hkk.to fun r wq eq hr=>?_
   clear hkk
   obtain ⟨cs2,rfl,hcs2⟩:=rd_agg hr
   obtain ⟨c2,u2,a2,p2,box2,plan2,cl2,rfl,hm⟩:=rd_mc hcs2
   obtain ⟨ca',cc',ua',uc',aa',ac',pa',pc',xa',xc',la',lc',ka',kc',rfl,rfl,rfl,rfl,rfl,rfl,rfl⟩:=hm.slices
   have hsz : w.heap.size + 3 ≤ wc.heap.size:=by have q:=(Array.getElem?_eq_some_iff.1 B_b2.out).1; have q2:=A_b2.out; omega
   have hz3 : b3 < wc.heap.size:=(Array.getElem?_eq_some_iff.1 B_b3.out).1
   have HM:=Lib.hid (hm.widen (B:=B1) (fun k _ h=>by
    rcases h with h | h
    ·exact h
    ·exact (HB1.out k).2 ⟨HK.out.2.1 k (by omega),by omega⟩))
   clear hr hcs2 hm hsz
   replace B_b0:=zbx B_b0 eq
   replace B_b1:=zbx B_b1 eq
   replace B_b2:=zbx B_b2 eq
   replace B_b3:=zbx B_b3 eq
   replace H:=Lib.hid (H.out.ext eq)
   replace N1:=zrx N1 eq
   replace N2:=zrx N2 eq
   replace N3:=zrx N3 eq
   replace NB:=zrx NB eq
   replace EW:=Lib.hid (EW.out.trans eq)
   go_wp2_with ((with_reducible refine zst (L:=[44,41,31,100]) ?_ ?_); exact rfl)
   unfold Hid
   refine wpList_storeW rfl 44 (.tmp 4) (.tmp 74) rfl b2 rfl [.slice ca' (RX).store.cells.length cc',.slice ua' (RX).store.undo.length uc',.slice aa' (RX).store.answers.length ac',.slice pa' (RX).store.past.length pc',I (RX).server.gen,.slice xa' (RX).server.box.length xc',.bool (RX).server.busy,I (RX).server.now.client,I (RX).server.now.token,I (RX).server.now.call.kind,I (RX).server.now.call.name,I (RX).server.now.call.other,I (RX).server.now.call.n,.slice la' (RX).server.plan.length lc',I (RX).server.says.err,I (RX).server.says.n,.bool (RX).up,I (RX).pause,I (RX).falls,.slice ka' (RX).clients.length kc'] (rfl) B_b2 rfl (by kernel_rfl) rfl (fun w24_ M24=>?_)
   replace B_b0:=zwl M24 B_b0 D_b0_b2
   replace B_b1:=zwl M24 B_b1 D_b1_b2
   replace B_b2:=zwb M24
   replace B_b3:=zwg M24 B_b3 D_b2_b3
   replace H:=Lib.hid (M24.out.rdM H.out N_b2.out)
   replace N1:=zwr M24 N1 N_b2
   replace N2:=zwr M24 N2 N_b2
   replace N3:=zwr M24 N3 N_b2
   replace NB:=zwr M24 NB N_b2
   replace HM:=Lib.hid (M24.out.rdM HM.out N_b2.out)
   replace EW:=zwe M24 EW O_b2
   go_wp2
   have z0:=run_box (P:=Tryz.prog) 44 B_b2.out Tryz.underlying44 (by kernel_rfl)
   refine bodyPost_ret (by simp [results,Tryz.results24,asAddr,z0]; rfl) rfl ?_
   exact ⟨_,rfl,EW.out,Rd.widen (A:=B1) (tupE_rd (RdM.mc (m:=RX) HM.out)) (fun k _ h=>HK.out.2.2.2 k (I_B1.out k h))⟩
  have hlen : (0 : Int) < (CB.length : Int):=by
   cases CB with
   | nil=>exact absurd rfl hcb
   | cons b l=>simp only [List.length_cons]; omega
  by_cases hve : VE = 0
  case neg =>
   have hbv : (VE != 0) = true:=by simpa using hve
   obtain ⟨rfl,rfl⟩:=Prod.mk.inj (HRES.out.2.2.1 rfl hcb hve)
   clear hve HRES hcb
   obtain ⟨B1,HB1⟩ : ∃ X : Nat → Prop,Hid (∀ k,X k ↔ (B k ∧ k ≠ b3)):=⟨_,fun _=>Iff.rfl⟩
   have hnar : ∀ k,k < w3_.heap.size → B k → B1 k:=fun k hk h=>(HB1.out k).2 ⟨h,by have q2:=hb3; omega⟩
   replace H:=Lib.hid (H.out.widen (B:=B1) hnar)
   replace N_b0:=znw HB1 N_b0
   replace N_b1:=znw HB1 N_b1
   replace N_b2:=znw HB1 N_b2
   have N_b3 : Hid (¬ B1 b3):=fun h=>((HB1.out _).1 h).2 rfl
   have I_B1 : Hid (∀ k,B1 k → B k):=fun k h=>((HB1.out k).1 h).1
   clear hnar
   have D_b0_b3 : Hid (b0 < b3):=by unfold Hid; have q:=(Array.getElem?_eq_some_iff.1 B_b0.out).1; omega
   have D_b1_b3 : Hid (b1 < b3):=by unfold Hid; have q:=(Array.getElem?_eq_some_iff.1 B_b1.out).1; omega
   have D_b2_b3 : Hid (b2 < b3):=by unfold Hid; have q:=(Array.getElem?_eq_some_iff.1 B_b2.out).1; omega
   have O_b3 : Hid (w.heap.size ≤ b3):=by unfold Hid; have q:=HSZK.out; omega
   replace B_b0:=zbx B_b0 hex
   replace B_b1:=zbx B_b1 hex
   replace B_b2:=zbx B_b2 hex
   replace H:=Lib.hid (H.out.ext hex)
   replace EW:=Lib.hid (EW.out.trans hex)
   have B_b3:=Lib.hid hblk
   have N1:=Lib.hid (r1.widen (B:=B1) (fun k _ h=>(HB1.out k).2 h))
   have N2:=Lib.hid (r2.widen (B:=B1) (fun k _ h=>(HB1.out k).2 h))
   have N3:=Lib.hid (r3.widen (B:=B1) (fun k _ h=>(HB1.out k).2 h))
   have NB:=Lib.hid (hby.widen (B:=B1) (fun k _ h=>(HB1.out k).2 h))
   clear r1 r2 r3 hby hblk hex hb3 HC1 HC2 HC3 HRG
   go_wp2_with ((with_reducible refine zst (L:=[44,41,31,100]) ?_ ?_); exact rfl)
   unfold Hid
   refine wpList_loadP rfl 41 (.tmp 58) rfl b0 4 rfl B_b0 [I gen,.slice xa bl.length xc,.bool busy,I nc,I nt,I nk,I na,I no,I nn,.slice la pl.length lc,I se,I sn] rfl Tryz.underlying41 (by kernel_rfl) (fun v59 H_v59=>?_)
   go_wp2_with fail
   rw [show _ = Value.agg #[I gen,.slice xa bl.length xc,.bool busy,I nc,I nt,I nk,I na,I no,I nn,.slice la pl.length lc,I se,I sn] from H_v59.out]
   have hkk:=refServerCome_keeps gen bl busy nc nt nk na no nn pl se sn _ _ _ CB wc B1 H.out.box H.out.plan NB.out HQ.out.2.2
   rw [HVX.out] at hkk
   simp only [] at hkk
   refine hkk.to fun r wv ev hr=>?_
   clear hkk
   obtain ⟨vs2,rfl,hvs⟩:=rd_tupE hr
   obtain ⟨vbox,vplan,rfl,v5,v6⟩:=rd_sv hvs
   obtain ⟨va5,vc5,rfl⟩:=rowOf_slice v5.out
   obtain ⟨va6,vc6,rfl⟩:=row_slice v6.out
   have hsz : w.heap.size + 3 ≤ wc.heap.size:=by have q:=(Array.getElem?_eq_some_iff.1 B_b2.out).1; have q2:=A_b2.out; omega
   have hz3 : b3 < wc.heap.size:=(Array.getElem?_eq_some_iff.1 B_b3.out).1
   have hin : ∀ k,k < wv.heap.size → (B1 k ∨ wc.heap.size ≤ k) → B1 k:=fun k _ h=>by
    rcases h with h | h
    ·exact h
    ·exact (HB1.out k).2 ⟨HK.out.2.1 k (by omega),by omega⟩
   have V5:=Lib.hid (v5.widen hin)
   have V6:=Lib.hid (v6.widen hin)
   clear hr hvs v5 v6 hin hsz hz3
   replace B_b0:=zbx B_b0 ev
   replace B_b1:=zbx B_b1 ev
   replace B_b2:=zbx B_b2 ev
   replace B_b3:=zbx B_b3 ev
   replace H:=Lib.hid (H.out.ext ev)
   replace N1:=zrx N1 ev
   replace N2:=zrx N2 ev
   replace N3:=zrx N3 ev
   replace NB:=zrx NB ev
   replace EW:=Lib.hid (EW.out.trans ev)
   go_wp2_with ((with_reducible refine zst (L:=[44,41,31,100]) ?_ ?_); exact rfl)
   unfold Hid
   refine wpList_allocB rfl 41 #[I 0,.slice none 0 0,.bool false,I 0,I 0,I 0,I 0,I 0,I 0,.slice none 0 0,I 0,I 0] (by kernel_rfl) (fun b4 w24_ M24=>?_)
   have D_b0_b4:=zld B_b0 M24
   have D_b1_b4:=zld B_b1 M24
   have D_b2_b4:=zld B_b2 M24
   have D_b3_b4:=zld B_b3 M24
   obtain ⟨B11,HB11⟩ : ∃ X : Nat → Prop,Hid (∀ k,X k ↔ (B1 k ∧ k ≠ b4)):=⟨_,fun _=>Iff.rfl⟩
   replace H:=Lib.hid (H.out.widen (B:=B11) (fun k hk h=>(HB11.out k).2 ⟨h,by have q2:=M24.out.at_; omega⟩))
   replace N1:=zmd HB11 M24 N1
   replace N2:=zmd HB11 M24 N2
   replace N3:=zmd HB11 M24 N3
   replace NB:=zmd HB11 M24 NB
   replace V5:=zmd HB11 M24 V5
   replace V6:=zmd HB11 M24 V6
   replace N_b0:=znw HB11 N_b0
   replace N_b1:=znw HB11 N_b1
   replace N_b2:=znw HB11 N_b2
   replace N_b3:=znw HB11 N_b3
   have N_b4 : Hid (¬ B11 b4):=fun h=>((HB11.out _).1 h).2 rfl
   have I_B11 : Hid (∀ k,B11 k → B1 k):=fun k h=>((HB11.out k).1 h).1
   have O_b4 : Hid (w.heap.size ≤ b4):=by unfold Hid; have q2:=M24.out.at_; have q3:=EW.out.size; omega
   replace B_b0:=zmo M24 B_b0
   replace B_b1:=zmo M24 B_b1
   replace B_b2:=zmo M24 B_b2
   replace B_b3:=zmo M24 B_b3
   have B_b4:=zmb M24
   replace H:=Lib.hid (H.out.ext M24.out.ext)
   replace N1:=zme M24 N1
   replace N2:=zme M24 N2
   replace N3:=zme M24 N3
   replace NB:=zme M24 NB
   replace V5:=zme M24 V5
   replace V6:=zme M24 V6
   replace EW:=zet EW M24
   go_wp2_with ((with_reducible refine zst (L:=[44,41,31,100]) ?_ ?_); exact rfl)
   unfold Hid
   refine wpList_storeW rfl 41 (.tmp 9) (.tmp 62) rfl b4 rfl [I VX.gen,.slice va5 VX.box.length vc5,.bool VX.busy,I VX.now.client,I VX.now.token,I VX.now.call.kind,I VX.now.call.name,I VX.now.call.other,I VX.now.call.n,.slice va6 VX.plan.length vc6,I VX.says.err,I VX.says.n] (rfl) B_b4 rfl (by kernel_rfl) rfl (fun w25_ M25=>?_)
   replace B_b0:=zwl M25 B_b0 D_b0_b4
   replace B_b1:=zwl M25 B_b1 D_b1_b4
   replace B_b2:=zwl M25 B_b2 D_b2_b4
   replace B_b3:=zwl M25 B_b3 D_b3_b4
   replace B_b4:=zwb M25
   replace H:=Lib.hid (M25.out.rdM H.out N_b4.out)
   replace N1:=zwr M25 N1 N_b4
   replace N2:=zwr M25 N2 N_b4
   replace N3:=zwr M25 N3 N_b4
   replace NB:=zwr M25 NB N_b4
   replace V5:=zwr M25 V5 N_b4
   replace V6:=zwr M25 V6 N_b4
   replace EW:=zwe M25 EW O_b4
   go_wp2_with ((with_reducible refine zst (L:=[44,41,31,100]) ?_ ?_); exact rfl)
   unfold Hid
   refine wpList_loadW rfl 44 (.tmp 2) rfl b0 rfl B_b0 Tryz.underlying44 (by kernel_rfl) (fun v66 H_v66=>?_)
   go_wp2_with ((with_reducible refine zst (L:=[44,41,31,100]) ?_ ?_); exact rfl)
   unfold Hid
   refine wpList_storeW rfl 44 (.tmp 4) (.tmp 66) rfl b2 rfl _ (zcv H_v66) B_b2 rfl (by kernel_rfl) rfl (fun w26_ M26=>?_)
   replace B_b0:=zwl M26 B_b0 D_b0_b2
   replace B_b1:=zwl M26 B_b1 D_b1_b2
   replace B_b2:=zwb M26
   replace B_b3:=zwg M26 B_b3 D_b2_b3
   replace B_b4:=zwg M26 B_b4 D_b2_b4
   replace H:=Lib.hid (M26.out.rdM H.out N_b2.out)
   replace N1:=zwr M26 N1 N_b2
   replace N2:=zwr M26 N2 N_b2
   replace N3:=zwr M26 N3 N_b2
   replace NB:=zwr M26 NB N_b2
   replace V5:=zwr M26 V5 N_b2
   replace V6:=zwr M26 V6 N_b2
   replace EW:=zwe M26 EW O_b2
   go_wp2
   have z0:=run_box (P:=Tryz.prog) 44 B_b2.out Tryz.underlying44 (by kernel_rfl)
   refine bodyPost_ret (by simp [results,Tryz.results24,asAddr,z0]; rfl) rfl ?_
   exact ⟨_,rfl,EW.out,Rd.widen (A:=B11) (tupE_rd (RdM.mc (m:=⟨⟨sc,su,sa,sp⟩,⟨gen,bl,busy,⟨nc,nt,⟨nk,na,no,nn⟩⟩,pl,⟨se,sn⟩⟩,up,pause,falls,cls⟩) H.out)) (fun k _ h=>HK.out.2.2.2 k (I_B1.out k (I_B11.out k h)))⟩
  subst hve
  obtain ⟨hMX,rfl⟩:=Prod.mk.inj (HRES.out.2.2.2 rfl hcb rfl)
  have HMX:=Lib.hid hMX
  clear hMX HRES hcb
  obtain ⟨B1,HB1⟩ : ∃ X : Nat → Prop,Hid (∀ k,X k ↔ (B k ∧ k ≠ b3)):=⟨_,fun _=>Iff.rfl⟩
  have hnar : ∀ k,k < w3_.heap.size → B k → B1 k:=fun k hk h=>(HB1.out k).2 ⟨h,by have q2:=hb3; omega⟩
  replace H:=Lib.hid (H.out.widen (B:=B1) hnar)
  replace N_b0:=znw HB1 N_b0
  replace N_b1:=znw HB1 N_b1
  replace N_b2:=znw HB1 N_b2
  have N_b3 : Hid (¬ B1 b3):=fun h=>((HB1.out _).1 h).2 rfl
  have I_B1 : Hid (∀ k,B1 k → B k):=fun k h=>((HB1.out k).1 h).1
  clear hnar
  have D_b0_b3 : Hid (b0 < b3):=by unfold Hid; have q:=(Array.getElem?_eq_some_iff.1 B_b0.out).1; omega
  have D_b1_b3 : Hid (b1 < b3):=by unfold Hid; have q:=(Array.getElem?_eq_some_iff.1 B_b1.out).1; omega
  have D_b2_b3 : Hid (b2 < b3):=by unfold Hid; have q:=(Array.getElem?_eq_some_iff.1 B_b2.out).1; omega
  have O_b3 : Hid (w.heap.size ≤ b3):=by unfold Hid; have q:=HSZK.out; omega
  replace B_b0:=zbx B_b0 hex
  replace B_b1:=zbx B_b1 hex
  replace B_b2:=zbx B_b2 hex
  replace H:=Lib.hid (H.out.ext hex)
  replace EW:=Lib.hid (EW.out.trans hex)
  have B_b3:=Lib.hid hblk
  have N1:=Lib.hid (r1.widen (B:=B1) (fun k _ h=>(HB1.out k).2 h))
  have N2:=Lib.hid (r2.widen (B:=B1) (fun k _ h=>(HB1.out k).2 h))
  have N3:=Lib.hid (r3.widen (B:=B1) (fun k _ h=>(HB1.out k).2 h))
  have NB:=Lib.hid (hby.widen (B:=B1) (fun k _ h=>(HB1.out k).2 h))
  clear r1 r2 r3 hby hblk hex hb3 HC1 HC2 HC3 HRG
  go_wp2_with ((with_reducible refine zst (L:=[44,41,31,100]) ?_ ?_); exact rfl)
  unfold Hid
  refine wpList_loadP rfl 41 (.tmp 58) rfl b0 4 rfl B_b0 [I gen,.slice xa bl.length xc,.bool busy,I nc,I nt,I nk,I na,I no,I nn,.slice la pl.length lc,I se,I sn] rfl Tryz.underlying41 (by kernel_rfl) (fun v59 H_v59=>?_)
  go_wp2_with fail
  rw [show _ = Value.agg #[I gen,.slice xa bl.length xc,.bool busy,I nc,I nt,I nk,I na,I no,I nn,.slice la pl.length lc,I se,I sn] from H_v59.out]
  have hkk:=refServerCome_keeps gen bl busy nc nt nk na no nn pl se sn _ _ _ CB wc B1 H.out.box H.out.plan NB.out HQ.out.2.2
  rw [HVX.out] at hkk
  simp only [] at hkk
  refine hkk.to fun r wv ev hr=>?_
  clear hkk
  obtain ⟨vs2,rfl,hvs⟩:=rd_tupE hr
  obtain ⟨vbox,vplan,rfl,v5,v6⟩:=rd_sv hvs
  obtain ⟨va5,vc5,rfl⟩:=rowOf_slice v5.out
  obtain ⟨va6,vc6,rfl⟩:=row_slice v6.out
  have hsz : w.heap.size + 3 ≤ wc.heap.size:=by have q:=(Array.getElem?_eq_some_iff.1 B_b2.out).1; have q2:=A_b2.out; omega
  have hz3 : b3 < wc.heap.size:=(Array.getElem?_eq_some_iff.1 B_b3.out).1
  have hin : ∀ k,k < wv.heap.size → (B1 k ∨ wc.heap.size ≤ k) → B1 k:=fun k _ h=>by
   rcases h with h | h
   ·exact h
   ·exact (HB1.out k).2 ⟨HK.out.2.1 k (by omega),by omega⟩
  have V5:=Lib.hid (v5.widen hin)
  have V6:=Lib.hid (v6.widen hin)
  clear hr hvs v5 v6 hin hsz hz3
  replace B_b0:=zbx B_b0 ev
  replace B_b1:=zbx B_b1 ev
  replace B_b2:=zbx B_b2 ev
  replace B_b3:=zbx B_b3 ev
  replace H:=Lib.hid (H.out.ext ev)
  replace N1:=zrx N1 ev
  replace N2:=zrx N2 ev
  replace N3:=zrx N3 ev
  replace NB:=zrx NB ev
  replace EW:=Lib.hid (EW.out.trans ev)
  go_wp2_with ((with_reducible refine zst (L:=[44,41,31,100]) ?_ ?_); exact rfl)
  unfold Hid
  refine wpList_allocB rfl 41 #[I 0,.slice none 0 0,.bool false,I 0,I 0,I 0,I 0,I 0,I 0,.slice none 0 0,I 0,I 0] (by kernel_rfl) (fun b4 w24_ M24=>?_)
  have D_b0_b4:=zld B_b0 M24
  have D_b1_b4:=zld B_b1 M24
  have D_b2_b4:=zld B_b2 M24
  have D_b3_b4:=zld B_b3 M24
  obtain ⟨B11,HB11⟩ : ∃ X : Nat → Prop,Hid (∀ k,X k ↔ (B1 k ∧ k ≠ b4)):=⟨_,fun _=>Iff.rfl⟩
  replace H:=Lib.hid (H.out.widen (B:=B11) (fun k hk h=>(HB11.out k).2 ⟨h,by have q2:=M24.out.at_; omega⟩))
  replace N1:=zmd HB11 M24 N1
  replace N2:=zmd HB11 M24 N2
  replace N3:=zmd HB11 M24 N3
  replace NB:=zmd HB11 M24 NB
  replace V5:=zmd HB11 M24 V5
  replace V6:=zmd HB11 M24 V6
  replace N_b0:=znw HB11 N_b0
  replace N_b1:=znw HB11 N_b1
  replace N_b2:=znw HB11 N_b2
  replace N_b3:=znw HB11 N_b3
  have N_b4 : Hid (¬ B11 b4):=fun h=>((HB11.out _).1 h).2 rfl
  have I_B11 : Hid (∀ k,B11 k → B1 k):=fun k h=>((HB11.out k).1 h).1
  have O_b4 : Hid (w.heap.size ≤ b4):=by unfold Hid; have q2:=M24.out.at_; have q3:=EW.out.size; omega
  replace B_b0:=zmo M24 B_b0
  replace B_b1:=zmo M24 B_b1
  replace B_b2:=zmo M24 B_b2
  replace B_b3:=zmo M24 B_b3
  have B_b4:=zmb M24
  replace H:=Lib.hid (H.out.ext M24.out.ext)
  replace N1:=zme M24 N1
  replace N2:=zme M24 N2
  replace N3:=zme M24 N3
  replace NB:=zme M24 NB
  replace V5:=zme M24 V5
  replace V6:=zme M24 V6
  replace EW:=zet EW M24
  go_wp2_with ((with_reducible refine zst (L:=[44,41,31,100]) ?_ ?_); exact rfl)
  unfold Hid
  refine wpList_storeW rfl 41 (.tmp 9) (.tmp 62) rfl b4 rfl [I VX.gen,.slice va5 VX.box.length vc5,.bool VX.busy,I VX.now.client,I VX.now.token,I VX.now.call.kind,I VX.now.call.name,I VX.now.call.other,I VX.now.call.n,.slice va6 VX.plan.length vc6,I VX.says.err,I VX.says.n] (rfl) B_b4 rfl (by kernel_rfl) rfl (fun w25_ M25=>?_)
  replace B_b0:=zwl M25 B_b0 D_b0_b4
  replace B_b1:=zwl M25 B_b1 D_b1_b4
  replace B_b2:=zwl M25 B_b2 D_b2_b4
  replace B_b3:=zwl M25 B_b3 D_b3_b4
  replace B_b4:=zwb M25
  replace H:=Lib.hid (M25.out.rdM H.out N_b4.out)
  replace N1:=zwr M25 N1 N_b4
  replace N2:=zwr M25 N2 N_b4
  replace N3:=zwr M25 N3 N_b4
  replace NB:=zwr M25 NB N_b4
  replace V5:=zwr M25 V5 N_b4
  replace V6:=zwr M25 V6 N_b4
  replace EW:=zwe M25 EW O_b4
  go_wp2_with ((with_reducible refine zst (L:=[44,41,31,100]) ?_ ?_); exact rfl)
  unfold Hid
  refine wpList_loadW rfl 41 (.tmp 9) rfl b4 rfl B_b4 Tryz.underlying41 (by kernel_rfl) (fun v68 H_v68=>?_)
  go_wp2_with ((with_reducible refine zst (L:=[44,41,31,100]) ?_ ?_); exact rfl)
  unfold Hid
  refine wpList_storeP rfl 41 (.tmp 69) (.tmp 68) rfl b0 4 rfl _ (zcv H_v68) B_b0 rfl (by kernel_rfl) rfl [.slice ca sc.length cc,.slice ua su.length uc,.slice aa sa.length ac,.slice pa sp.length pc,I VX.gen,.slice va5 VX.box.length vc5,.bool VX.busy,I VX.now.client,I VX.now.token,I VX.now.call.kind,I VX.now.call.name,I VX.now.call.other,I VX.now.call.n,.slice va6 VX.plan.length vc6,I VX.says.err,I VX.says.n,.bool up,I pause,I falls,.slice (some ⟨kb,ko,none⟩) cls.length kc] rfl (fun w26_ M26=>?_)
  replace B_b0:=zwb M26
  replace B_b1:=zwg M26 B_b1 D_b0_b1
  replace B_b2:=zwg M26 B_b2 D_b0_b2
  replace B_b3:=zwg M26 B_b3 D_b0_b3
  replace B_b4:=zwg M26 B_b4 D_b0_b4
  replace H:=Lib.hid (M26.out.rdM H.out N_b0.out)
  replace N1:=zwr M26 N1 N_b0
  replace N2:=zwr M26 N2 N_b0
  replace N3:=zwr M26 N3 N_b0
  replace NB:=zwr M26 NB N_b0
  replace V5:=zwr M26 V5 N_b0
  replace V6:=zwr M26 V6 N_b0
  replace EW:=zwe M26 EW O_b0
  go_wp2_with ((with_reducible refine zst (L:=[44,41,31,100]) ?_ ?_); exact rfl)
  unfold Hid
  refine wpList_loadW rfl 44 (.tmp 2) rfl b0 rfl B_b0 Tryz.underlying44 (by kernel_rfl) (fun v70 H_v70=>?_)
  have k1:=cell_of (i:=1) B_b1.out rfl
  go_wp2_with ((with_reducible refine zst (L:=[44,41,31,100]) ?_ ?_); exact rfl)
  unfold Hid
  clear k1
  refine wpList_loadW rfl 100 (.tmp 6) rfl b3 rfl B_b3 Tryz.underlying100 (by kernel_rfl) (fun v73 H_v73=>?_)
  go_wp2_with fail
  rw [show _ = Value.agg #[.slice ca sc.length cc,.slice ua su.length uc,.slice aa sa.length ac,.slice pa sp.length pc,I VX.gen,.slice va5 VX.box.length vc5,.bool VX.busy,I VX.now.client,I VX.now.token,I VX.now.call.kind,I VX.now.call.name,I VX.now.call.other,I VX.now.call.n,.slice va6 VX.plan.length vc6,I VX.says.err,I VX.says.n,.bool up,I pause,I falls,.slice (some ⟨kb,ko,none⟩) cls.length kc] from H_v70.out,show _ = Value.agg #[.slice na1 ol.length nc1,I oat,.bool osent,I ogen,.slice na2 xl.length nc2,.slice na3 gl.length nc3] from H_v73.out]
  have hkk:=refWith_keeps ⟨⟨sc,su,sa,sp⟩,VX,up,pause,falls,cls⟩ _ _ _ _ _ _ _ j ol oat osent ogen xl gl _ _ _ w26_ B11 ⟨H.out.cells,H.out.undo,H.out.answers,H.out.past,V5.out,V6.out,H.out.clients⟩ N1.out N2.out N3.out HQ.out.1 HQ.out.2.1
  simp only [] at hkk
  rw [HMX.out] at hkk
  refine hkk.to fun r wq eq hr=>?_
  clear hkk
  obtain ⟨cs2,rfl,hcs2⟩:=rd_agg hr
  obtain ⟨c2,u2,a2,p2,box2,plan2,cl2,rfl,hm⟩:=rd_mc hcs2
  obtain ⟨ca',cc',ua',uc',aa',ac',pa',pc',xa',xc',la',lc',ka',kc',rfl,rfl,rfl,rfl,rfl,rfl,rfl⟩:=hm.slices
  have hsz : w.heap.size + 3 ≤ w26_.heap.size:=by have q:=(Array.getElem?_eq_some_iff.1 B_b2.out).1; have q2:=A_b2.out; omega
  have hz3 : b3 < w26_.heap.size:=(Array.getElem?_eq_some_iff.1 B_b3.out).1
  have hz4 : b4 < w26_.heap.size:=(Array.getElem?_eq_some_iff.1 B_b4.out).1
  have HM:=Lib.hid (hm.widen (B:=B11) (fun k _ h=>by
   rcases h with h | h
   ·exact h
   ·exact (HB11.out k).2 ⟨(HB1.out k).2 ⟨HK.out.2.1 k (by omega),by omega⟩,by omega⟩))
  clear hr hcs2 hm hsz
  replace B_b0:=zbx B_b0 eq
  replace B_b1:=zbx B_b1 eq
  replace B_b2:=zbx B_b2 eq
  replace B_b3:=zbx B_b3 eq
  replace B_b4:=zbx B_b4 eq
  replace H:=Lib.hid (H.out.ext eq)
  replace N1:=zrx N1 eq
  replace N2:=zrx N2 eq
  replace N3:=zrx N3 eq
  replace NB:=zrx NB eq
  replace V5:=zrx V5 eq
  replace V6:=zrx V6 eq
  replace EW:=Lib.hid (EW.out.trans eq)
  go_wp2_with ((with_reducible refine zst (L:=[44,41,31,100]) ?_ ?_); exact rfl)
  unfold Hid
  refine wpList_storeW rfl 44 (.tmp 4) (.tmp 74) rfl b2 rfl [.slice ca' (RX).store.cells.length cc',.slice ua' (RX).store.undo.length uc',.slice aa' (RX).store.answers.length ac',.slice pa' (RX).store.past.length pc',I (RX).server.gen,.slice xa' (RX).server.box.length xc',.bool (RX).server.busy,I (RX).server.now.client,I (RX).server.now.token,I (RX).server.now.call.kind,I (RX).server.now.call.name,I (RX).server.now.call.other,I (RX).server.now.call.n,.slice la' (RX).server.plan.length lc',I (RX).server.says.err,I (RX).server.says.n,.bool (RX).up,I (RX).pause,I (RX).falls,.slice ka' (RX).clients.length kc'] (rfl) B_b2 rfl (by kernel_rfl) rfl (fun w27_ M27=>?_)
  replace B_b0:=zwl M27 B_b0 D_b0_b2
  replace B_b1:=zwl M27 B_b1 D_b1_b2
  replace B_b2:=zwb M27
  replace B_b3:=zwg M27 B_b3 D_b2_b3
  replace B_b4:=zwg M27 B_b4 D_b2_b4
  replace H:=Lib.hid (M27.out.rdM H.out N_b2.out)
  replace N1:=zwr M27 N1 N_b2
  replace N2:=zwr M27 N2 N_b2
  replace N3:=zwr M27 N3 N_b2
  replace NB:=zwr M27 NB N_b2
  replace V5:=zwr M27 V5 N_b2
  replace V6:=zwr M27 V6 N_b2
  replace HM:=Lib.hid (M27.out.rdM HM.out N_b2.out)
  replace EW:=zwe M27 EW O_b2
  go_wp2
  have z0:=run_box (P:=Tryz.prog) 44 B_b2.out Tryz.underlying44 (by kernel_rfl)
  refine bodyPost_ret (by simp [results,Tryz.results24,asAddr,z0]; rfl) rfl ?_
  exact ⟨_,rfl,EW.out,Rd.widen (A:=B11) (tupE_rd (RdM.mc (m:=RX) HM.out)) (fun k _ h=>HK.out.2.2.2 k (I_B1.out k (I_B11.out k h)))⟩

end Go.Proofs.YtdmipnnfooleladGreat

namespace Go.Proofs.YtdmipnnfooleladGreat
open Go.RowKit Go.Mk
set_option maxRecDepth 100000

/-- What a machine must be for its next step to be walked: no list is too long, numbers are small, cells are right where a request may be taken. -/
structure Fit (m : Mc) : Prop where
 cells : m.store.cells.length = 11
 undo : m.store.undo.length ≤ 1000
 answers : m.store.answers.length ≤ 1000
 past : m.store.past.length ≤ 1000
 right : m.up = true → m.server.busy = false → Weak m.store.cells
 clients : m.clients.length ≤ 1000
 each : ∀ c ∈ m.clients,0 ≤ c.at_ ∧ c.at_ ≤ 1000000 ∧ c.got.length ≤ 1000 ∧ c.box.length ≤ 1000
 box : m.server.box.length ≤ 1000
 falls : 0 ≤ m.falls
 gen : 0 ≤ m.server.gen ∧ m.server.gen ≤ 1000000
 pause : 0 ≤ m.pause ∧ m.pause ≤ 1000000

theorem refDo_keeps (m : Mc) (c u a p box plan cl : Value) (kind n : Int) (w : World) (A : Nat → Prop) (h : RdM A w m c u a p box plan cl) (hf : Fit m) :
  Keeps Tryz.prog 24 #[.agg (cells20 m c u a p box plan cl).toArray,.agg #[I kind,I n]] w A (fun r w'=>TupE elMc (doM m kind n).1 (doM m kind n).2 r w'):=by
 have hc:=hf.cells
 by_cases h1 : kind = 1
 ·subst h1
  by_cases hn : n < 0 ∨ (m.clients.length : Int) ≤ n
  ·exact refDo_noclient m c u a p box plan cl n w A h hn
  ·exact refDo_client m c u a p box plan cl n w A h (by omega) hf.clients (fun c hc=>⟨(hf.each c hc).1,(hf.each c hc).2.1,(hf.each c hc).2.2.1⟩) hf.box
 by_cases h2 : kind = 2
 ·subst h2
  exact refDo_server m c u a p box plan cl n w A h (by omega) (by have:=hf.undo; omega) hf.answers (by have:=hf.past; omega) hf.right hf.clients (fun c hc=>(hf.each c hc).2.2.2)
 by_cases h3 : kind = 3
 ·subst h3
  exact refDo_fall m c u a p box plan cl n w A h hf.falls
 by_cases h4 : kind = 4
 ·subst h4
  exact refDo_tick m c u a p box plan cl n w A h (by omega) hf.gen hf.pause
 exact refDo_none m c u a p box plan cl kind n w A h h1 h2 h3 h4

end Go.Proofs.YtdmipnnfooleladGreat

namespace Go.Proofs.YtdmipnnfooleladGreat
open Go.RowKit Go.Mk
set_option maxRecDepth 100000

theorem fit_of {l : List (List Cl)} (hl : rightL l) {m : Mc} {ks : List Nat} {bz : Option Nat} (h : MInv l m ks bz) {k : Nat} (hs : SizeM m k) (hk : k ≤ 1000) : Fit m where
 cells:=h.cells
 undo:=Nat.le_trans hs.undo hk
 answers:=Nat.le_trans hs.answers hk
 past:=Nat.le_trans hs.past hk
 right:=fun hu hb=>by
  have h1 : bz = none:=by
   have:=h.busy
   rw [hb] at this
   cases bz with
   | none=>rfl
   | some i=>cases this
  have h2:=h.right
  rw [h.clean hu h1] at h2
  exact weak_of h2
 clients:=by rw [h.nc]; have:=hl.1; omega
 each:=fun c hc=>by
  obtain ⟨i,hi⟩:=List.mem_iff_getElem?.1 hc
  have h1:=(h.clients i c hi).at_
  have h2:=hs.each c hc
  rw [h1]
  omega
 box:=Nat.le_trans hs.box hk
 falls:=h.falls.1
 gen:=by
  obtain ⟨g1,g2,g3⟩:=h.gens
  have hf:=h.falls
  cases hu : m.up with
  | true=>have:=g2 hu; omega
  | false=>have:=g3 hu; omega
 pause:=by
  cases hu : m.up with
  | true=>have:=h.upp hu; omega
  | false=>have:=h.down hu; omega

end Go.Proofs.YtdmipnnfooleladGreat

namespace Go.Proofs.YtdmipnnfooleladGreat
open Go.RowKit Go.Mk
set_option maxRecDepth 100000

end Go.Proofs.YtdmipnnfooleladGreat

namespace Go.Proofs.YtdmipnnfooleladGreat
open Go.RowKit Go.Mk
set_option maxRecDepth 100000

/-- The cells of new clients. -/
def newCsOf (cvs : List Value) : List (List Value):=cvs.map fun cv=>[cv,I 0,.bool false,I 0,.slice none 0 0,.slice none 0 0]
theorem own_ne_gtN {g n cap b : Nat} (h : g < b) : (Value.slice (some ⟨g,0,none⟩) n cap).ownBlock ≠ some b:=fun e=>by
 have q : g = b:=by simpa [Value.ownBlock] using e
 omega
theorem keep_blk {w w' : World} {row : Option Nat} (hg : w.grownBy w' row) {b : Nat} {o : Obj} (h : w.heap[b]? = some o) (hne : row ≠ some b) : w'.heap[b]? = some o:=by
 rw [hg.block b (Array.getElem?_eq_some_iff.1 h).1 (fun e=>hne e.symm)]
 exact h
theorem newCs_snoc (cvs : List Value) (k : Nat) (cv : Value) (h : cvs[k]? = some cv) : (newCsOf (cvs.take (k + 1))).flatten = (newCsOf (cvs.take k)).flatten ++ [cv,I 0,.bool false,I 0,.slice none 0 0,.slice none 0 0]:=by
 rw [List.take_add_one,h]
 simp [newCsOf]

/-- The cells of no machine. -/
def zeroMcs : List Value:=[.slice none 0 0,.slice none 0 0,.slice none 0 0,.slice none 0 0,I 0,.slice none 0 0,.bool false,I 0,I 0,I 0,I 0,I 0,I 0,.slice none 0 0,I 0,I 0,.bool false,I 0,I 0,.slice none 0 0]
def NewT (l : List (List Cl)) (r : Value) (w : World) : Prop:=∃ (cs : List Value) (e : Int),r = .tuple #[.agg cs.toArray,I e] ∧ ((e = 0 ∧ rightL l ∧ elMc w cs (newMc l)) ∨ (cs = zeroMcs ∧ e ≠ 0 ∧ ¬ rightL l))

theorem each_new {w : World} {l : List (List Cl)} {cvs : List Value} (hl : cvs.length = l.length) (h : ∀ (k : Nat) (x : List Cl) (cv : Value),l[k]? = some x → cvs[k]? = some cv → RowOf 4 elCl w cv x) : Each 6 elCn w (newCsOf cvs) (l.map newCn):=by
 refine ⟨by simp [newCsOf,hl],fun i c x hc hx=>?_⟩
 unfold newCsOf at hc
 rw [List.getElem?_map] at hc hx
 cases h1 : cvs[i]? with
 | none=>rw [h1] at hc; cases hc
 | some cv =>
  cases h2 : l[i]? with
  | none=>rw [h2] at hx; cases hx
  | some y =>
   rw [h1] at hc
   rw [h2] at hx
   simp at hc hx
   subst hc hx
   exact ⟨rfl,(cn_iff (c:=newCn y)).2 ⟨h i y cv h2 h1,RowOf.nil w,RowOf.nil w⟩⟩
theorem not_long {l : List (List Cl)} (h : 3 < l.length) : ¬ rightL l:=fun hr=>by have:=hr.1; omega
theorem not_much {l : List (List Cl)} {k : Nat} {x : List Cl} (hx : l[k]? = some x) (h : 8 < x.length) : ¬ rightL l:=fun hr=>by have:=(hr.2 x (List.mem_of_getElem? hx)).1; omega
theorem not_call {l : List (List Cl)} {k q : Nat} {x : List Cl} {y : Cl} (hx : l[k]? = some x) (hy : x[q]? = some y) (h : wrongCl y ≠ 0) : ¬ rightL l:=fun hr=>h ((hr.2 x (List.mem_of_getElem? hx)).2 y (List.mem_of_getElem? hy))
def okL (l : List (List Cl)) (k : Nat) : Prop:=∀ (j : Nat) (x : List Cl),j < k → l[j]? = some x → x.length ≤ 8 ∧ ∀ y ∈ x,wrongCl y = 0

theorem calls_form {w : World} {v : Value} {l : List (List Cl)} {css : List (List Value)} (he : Each 1 elCls w css l) (hr : Row w 1 v l.length css.flatten) : ∃ ao cap,v = .slice ao l.length cap ∧ l.length ≤ cap ∧ cap ≤ maxLen ∧ css.flatten.length = l.length ∧
  ∀ k x,l[k]? = some x → ∃ b off cv,ao = some ⟨b,off,none⟩ ∧ css.flatten[k]? = some cv ∧ w.cell? ⟨b,off + k,none⟩ = some cv ∧ RowOf 4 elCl w cv x:=by
 obtain ⟨hl,ao,cap,e,h3,h4,h0,h5⟩:=hr
 refine ⟨ao,cap,e,h3,h4,by simpa using hl,fun k x hx=>?_⟩
 have hk : k < css.length:=by rw [he.1]; exact (List.getElem?_eq_some_iff.1 hx).1
 have hc : css[k]? = some css[k]:=List.getElem?_eq_getElem hk
 obtain ⟨h6,cv,h7,h8⟩:=he.2 k _ x hc hx
 have h9:=flatten_get (by decide) he.sizes hc (j:=0) (u:=cv) (by rw [h7]; rfl)
 rw [Nat.mul_one,Nat.add_zero] at h9
 obtain ⟨b,off,e1,hcell⟩:=h5 k cv h9
 exact ⟨b,off,cv,e1,h9,hcell,h8⟩

set_option maxHeartbeats 4000000 in
theorem refNew_keeps (v : Value) (l : List (List Cl)) (w : World) (A : Nat → Prop) (hv : Rd A (fun w=>RowOf 1 elCls w v l) w) :
  Keeps Tryz.prog 23 #[v] w A (NewT l):=by
 unfold Keeps
 obtain ⟨css,hcss⟩:=rd_rowOf2 (by decide) hv
 obtain ⟨va,vcap,rfl,v1,v2,hcl,v3⟩:=calls_form hcss.out.1 hcss.out.2
 unfold maxLen at v2
 have HE:=Lib.hid hcss.left
 have V3:=Lib.hid v3
 have HCL:=Lib.hid hcl
 generalize hcvs : css.flatten = cvs at *
 have HCV:=Lib.hid hcvs
 clear v3 hcl hv hcss hcvs
 have EW:=Lib.hid (Ext.refl w)
 by_cases h3 : 3 < l.length
 case pos =>
  have h3i : (3 : Int) < (l.length : Int):=by omega
  have HN:=Lib.hid (not_long h3)
  clear h3
  go_enter Tryz.func23,Tryz.ntmps23
  go_wp2_with ((with_reducible refine zst (L:=[44,41,31,100]) ?_ ?_); exact rfl)
  unfold Hid
  refine wpList_allocB rfl 44 #[.slice none 0 0,.slice none 0 0,.slice none 0 0,.slice none 0 0,I 0,.slice none 0 0,.bool false,I 0,I 0,I 0,I 0,I 0,I 0,.slice none 0 0,I 0,I 0,.bool false,I 0,I 0,.slice none 0 0] (by kernel_rfl) (fun b0 w1_ M1=>?_)
  have B_b0:=zmb M1
  replace EW:=zet EW M1
  have O_b0 : Hid (w.heap.size ≤ b0):=by unfold Hid; have q:=M1.out.at_; omega
  go_wp2_with ((with_reducible refine zst (L:=[44,41,31,100]) ?_ ?_); exact rfl)
  unfold Hid
  refine wpList_buildB rfl 44 #[] rfl #[.slice none 0 0,.slice none 0 0,.slice none 0 0,.slice none 0 0,I 0,.slice none 0 0,.bool false,I 0,I 0,I 0,I 0,I 0,I 0,.slice none 0 0,I 0,I 0,.bool false,I 0,I 0,.slice none 0 0] (by kernel_rfl) (fun v13 H_v13=>?_)
  go_wp2_with ((with_reducible refine zst (L:=[44,41,31,100]) ?_ ?_); exact rfl)
  unfold Hid
  refine wpList_storeW rfl 44 (.tmp 2) (.tmp 13) rfl b0 rfl _ (zcv H_v13) B_b0 rfl (by kernel_rfl) rfl (fun w2_ M2=>?_)
  replace B_b0:=zwb M2
  replace EW:=zwe M2 EW O_b0
  go_wp2
  have z0:=run_box (P:=Tryz.prog) 44 B_b0.out Tryz.underlying44 (by kernel_rfl)
  refine bodyPost_ret (by simp [results,Tryz.results23,asAddr,z0]; rfl) rfl ?_
  exact ⟨_,rfl,EW.out,Rd.all fun w=>⟨_,_,rfl,.inr ⟨rfl,by decide,HN.out⟩⟩⟩
 have h3i : ¬ ((3 : Int) < (l.length : Int)):=by omega
 have H3:=Lib.hid h3
 clear h3
 obtain ⟨i0,hi,hz0,hz1,hz2⟩:=info_parts Tryz.infoInt
 have HI:=Lib.hid hi
 clear hi
 obtain ⟨j0,hj,hy0,hy1,hy2⟩:=info_parts Tryz.infoClient
 have HJ:=Lib.hid hj
 clear hj
 go_enter Tryz.func23,Tryz.ntmps23
 go_wp2_with ((with_reducible refine zst (L:=[44,41,31,100]) ?_ ?_); exact rfl)
 unfold Hid
 refine wpList_allocB rfl 44 #[.slice none 0 0,.slice none 0 0,.slice none 0 0,.slice none 0 0,I 0,.slice none 0 0,.bool false,I 0,I 0,I 0,I 0,I 0,I 0,.slice none 0 0,I 0,I 0,.bool false,I 0,I 0,.slice none 0 0] (by kernel_rfl) (fun b0 w1_ M1=>?_)
 have B_b0:=zmb M1
 replace EW:=zet EW M1
 have O_b0 : Hid (w.heap.size ≤ b0):=by unfold Hid; have q:=M1.out.at_; omega
 go_wp2_with (first | (at_make; refine stop_at ?_) | ((with_reducible refine zst (L:=[44,41,31,100]) ?_ ?_); exact rfl))
 unfold Hid
 refine wpList_make_full _ rfl _ _ 26 rfl w1_.heap.size 3 i0 (.int .i64 0) 1 Tryz.underlying26 HI.out hz0 hz1 .i64 .i64 _ _ 11 rfl rfl rfl rfl (by rw [hz2]; decide) (by decide) (Nat.le_refl _) ?_
 intro w2 ho hg
 have hmc : (madeCells (Value.int .i64 0).cells (11 * 1)).toList = (List.replicate 11 (0 : Int)).map I:=by kernel_rfl
 rw [hmc] at ho
 clear hmc
 have e2 : Ext w1_ w2:=(Ext.refl _).grown hg (fun k hk=>by cases hk)
 clear hg
 have D_b0_bc : Hid (b0 < w1_.heap.size):=(Array.getElem?_eq_some_iff.1 B_b0.out).1
 have O_bc : Hid (w.heap.size ≤ w1_.heap.size):=EW.out.size
 generalize w1_.heap.size = bc at *
 have OC:=Lib.hid ho
 clear ho
 replace B_b0:=zbx B_b0 e2
 replace EW:=Lib.hid (EW.out.trans e2)
 clear e2
 go_wp2_with ((with_reducible refine zst (L:=[44,41,31,100]) ?_ ?_); exact rfl)
 unfold Hid
 refine wpList_buildB rfl 31 #[(0,.tmp 14)] rfl #[.slice (some ⟨bc,0,none⟩) 11 11,.slice none 0 0,.slice none 0 0,.slice none 0 0] (by kernel_rfl) (fun v15 H_v15=>?_)
 have hv15:=H_v15.out
 subst hv15
 clear H_v15
 go_wp2_with ((with_reducible refine zst (L:=[44,41,31,100]) ?_ ?_); exact rfl)
 unfold Hid
 refine wpList_buildB rfl 44 #[(0,.tmp 15),(2,.const (.bool true))] rfl #[.slice (some ⟨bc,0,none⟩) 11 11,.slice none 0 0,.slice none 0 0,.slice none 0 0,I 0,.slice none 0 0,.bool false,I 0,I 0,I 0,I 0,I 0,I 0,.slice none 0 0,I 0,I 0,.bool true,I 0,I 0,.slice none 0 0] (by kernel_rfl) (fun v16 H_v16=>?_)
 go_wp2_with ((with_reducible refine zst (L:=[44,41,31,100]) ?_ ?_); exact rfl)
 unfold Hid
 refine wpList_allocB rfl 44 #[.slice none 0 0,.slice none 0 0,.slice none 0 0,.slice none 0 0,I 0,.slice none 0 0,.bool false,I 0,I 0,I 0,I 0,I 0,I 0,.slice none 0 0,I 0,I 0,.bool false,I 0,I 0,.slice none 0 0] (by kernel_rfl) (fun b1 w2_ M2=>?_)
 have D_b0_b1:=zld B_b0 M2
 replace B_b0:=zmo M2 B_b0
 have B_b1:=zmb M2
 replace EW:=zet EW M2
 have D_bc_b1 : Hid (bc < b1):=by unfold Hid; have q:=(OC.out.lt bc rfl).2; have q2:=M2.out.at_; omega
 have O_b1 : Hid (w.heap.size ≤ b1):=by unfold Hid; have q:=O_b0.out; have q2:=D_b0_b1.out; omega
 replace OC:=Lib.hid (owns_ext OC.out M2.out.ext)
 have SZ : Hid (b1 < w2_.heap.size):=(Array.getElem?_eq_some_iff.1 B_b1.out).1
 go_wp2_with ((with_reducible refine zst (L:=[44,41,31,100]) ?_ ?_); exact rfl)
 unfold Hid
 refine wpList_storeW rfl 44 (.tmp 4) (.tmp 16) rfl b1 rfl _ (zcv H_v16) B_b1 rfl (by kernel_rfl) rfl (fun w3_ M3=>?_)
 replace B_b0:=zwl M3 B_b0 D_b0_b1
 replace B_b1:=zwb M3
 replace OC:=Lib.hid (M3.out.owns OC.out (own_ne_gtN D_bc_b1.out))
 replace EW:=zwe M3 EW O_b1
 replace SZ : Hid (b1 < w3_.heap.size):=(Array.getElem?_eq_some_iff.1 B_b1.out).1
 go_wp2_with fail
 go_loopw [19] (fun i wr=>∃ (k : Nat) (clv : Value),k ≤ l.length ∧ i = I k ∧ okL l k ∧ wr.heap[b0]? = some (.cells #[.slice none 0 0,.slice none 0 0,.slice none 0 0,.slice none 0 0,I 0,.slice none 0 0,.bool false,I 0,I 0,I 0,I 0,I 0,I 0,.slice none 0 0,I 0,I 0,.bool false,I 0,I 0,.slice none 0 0] 44 (0,0)) ∧ wr.heap[b1]? = some (.cells #[.slice (some ⟨bc,0,none⟩) 11 11,.slice none 0 0,.slice none 0 0,.slice none 0 0,I 0,.slice none 0 0,.bool false,I 0,I 0,I 0,I 0,I 0,I 0,.slice none 0 0,I 0,I 0,.bool true,I 0,I 0,clv] 44 (0,0)) ∧ wr.ownsRow bc 3 1 (.slice (some ⟨bc,0,none⟩) 11 11) 11 ((List.replicate 11 (0 : Int)).map I) ∧ wr.ownsRow (b1 + 1) 100 6 clv k (newCsOf (cvs.take k)).flatten ∧ Ext w wr) (fun i _=>l.length - (intOf i).toNat)
 case atStart=>exact ⟨0,_,Nat.zero_le _,rfl,fun j x hj=>by omega,B_b0.out,B_b1.out,OC.out,World.ownsRow_nil _ _ _ _,EW.out⟩
 case round =>
  obtain ⟨k,clv,hk,rfl,hok,hb0,hb1,hoc,hocl,hex⟩:=hrel
  clear B_b0 B_b1 OC EW SZ
  have B_b0:=Lib.hid hb0
  have B_b1:=Lib.hid hb1
  have OC:=Lib.hid hoc
  have OCL:=Lib.hid hocl
  have EW:=Lib.hid hex
  have HOK:=Lib.hid hok
  obtain ⟨la,lcap,rfl⟩:=own_slice' hocl
  clear hb0 hb1 hoc hocl hex hok
  by_cases hlt : k < l.length
  ·obtain ⟨x,hx⟩ : ∃ x,l[k]? = some x:=⟨l[k],List.getElem?_eq_getElem hlt⟩
   obtain ⟨vb,vo,cv,rfl,hcv,hcell,hrow⟩:=V3.out k x hx
   have hcw:=EW.out.cell hcell
   obtain ⟨xa,xcap,rfl⟩:=rowOf_slice hrow
   have HXF:=Lib.hid (hrow.ext monoCl EW.out)
   have HX:=Lib.hid hx
   have HCVK:=Lib.hid hcv
   clear hx hcv hcell hrow
   by_cases h8 : 8 < x.length
   ·have h8i : (8 : Int) < (x.length : Int):=by omega
    have HN:=Lib.hid (not_much HX.out h8)
    clear h8
    go_wp2_with ((with_reducible refine zst (L:=[44,41,31,100]) ?_ ?_); exact rfl)
    unfold Hid
    clear hcw
    refine wpList_buildB rfl 44 #[] rfl #[.slice none 0 0,.slice none 0 0,.slice none 0 0,.slice none 0 0,I 0,.slice none 0 0,.bool false,I 0,I 0,I 0,I 0,I 0,I 0,.slice none 0 0,I 0,I 0,.bool false,I 0,I 0,.slice none 0 0] (by kernel_rfl) (fun v26 H_v26=>?_)
    go_wp2_with ((with_reducible refine zst (L:=[44,41,31,100]) ?_ ?_); exact rfl)
    unfold Hid
    refine wpList_storeW rfl 44 (.tmp 2) (.tmp 26) rfl b0 rfl _ (zcv H_v26) B_b0 rfl (by kernel_rfl) rfl (fun w41_ M41=>?_)
    replace B_b0:=zwb M41
    replace B_b1:=zwg M41 B_b1 D_b0_b1
    replace EW:=zwe M41 EW O_b0
    go_wp2
    have z0:=run_box (P:=Tryz.prog) 44 B_b0.out Tryz.underlying44 (by kernel_rfl)
    refine bodyPost_ret (by simp [results,Tryz.results23,asAddr,z0]; rfl) rfl ?_
    exact ⟨_,rfl,EW.out,Rd.all fun w=>⟨_,_,rfl,.inr ⟨rfl,by decide,HN.out⟩⟩⟩
   ·have h8i : ¬ ((8 : Int) < (x.length : Int)):=by omega
    have H8:=Lib.hid h8
    clear h8
    go_wp2_with fail
    clear hcw h8i
    go_loopw [29] (fun i wi=>∃ q : Nat,q ≤ x.length ∧ i = I q ∧ (∀ (j : Nat) (y : Cl),j < q → x[j]? = some y → wrongCl y = 0) ∧ Ext wr wi) (fun i _=>x.length - (intOf i).toNat)
    case atStart=>exact ⟨0,Nat.zero_le _,rfl,fun j y hj=>by omega,Ext.refl _⟩
    case round =>
     obtain ⟨q,hq,rfl,hall,hei⟩:=hrel
     have HALL:=Lib.hid hall
     have HEI:=Lib.hid hei
     clear hall hei
     by_cases hql : q < x.length
     ·obtain ⟨y,hy⟩ : ∃ y,x[q]? = some y:=⟨x[q],List.getElem?_eq_getElem hql⟩
      obtain ⟨_,_,e1,_,hxm,_,hf⟩:=HXF.out.form (by decide)
      simp only [Value.slice.injEq,true_and] at e1
      obtain ⟨rfl,rfl⟩:=e1
      obtain ⟨yk,ya,yo,yn⟩:=y
      obtain ⟨yb,yf,c4,rfl,-,hc4,hcell⟩:=hf q _ hy
      have hc4 : c4 = [I yk,I ya,I yo,I yn]:=hc4
      subst hc4
      have HY:=Lib.hid hy
      have y0:=HEI.out.cell (hcell 0 _ rfl)
      have y1:=HEI.out.cell (hcell 1 _ rfl)
      have y2:=HEI.out.cell (hcell 2 _ rfl)
      have y3:=HEI.out.cell (hcell 3 _ rfl)
      simp only [Nat.add_zero,← Nat.add_assoc] at y0 y1 y2 y3
      clear hf hcell hy
      unfold maxLen at hxm
      go_wp2_with fail
      clear y0 y1 y2 y3
      refine Calls.exts (refWrongCall_any yk ya yo yn _) (fun wj ej=>?_)
      replace ej:=((Ext.refl _).alloc _).trans ej
      by_cases hw : wrongCl ⟨yk,ya,yo,yn⟩ = 0
      ·rw [hw]
       have HW:=Lib.hid hw
       clear hw
       go_wp2
       go_roundw
       case rel =>
        refine ⟨q + 1,by omega,by go_num,fun j y hj hy=>?_,HEI.out.trans ej⟩
        by_cases hjq : j = q
        ·subst hjq
         have hy2 : x[j]? = some y:=hy
         rw [HY.out] at hy2
         cases hy2
         exact HW.out
        ·exact HALL.out j y (by omega) hy
       case measure=>simp [intOf]; omega
      ·have hb : (wrongCl ⟨yk,ya,yo,yn⟩ != 0) = true:=by simpa using hw
       have HN:=Lib.hid (not_call HX.out HY.out hw)
       have HW:=Lib.hid hw
       generalize wrongCl ⟨yk,ya,yo,yn⟩ = WC at *
       clear hw
       have eji:=HEI.out.trans ej
       replace B_b0:=zbx B_b0 eji
       replace B_b1:=zbx B_b1 eji
       replace EW:=Lib.hid (EW.out.trans eji)
       clear eji ej
       go_wp2_with ((with_reducible refine zst (L:=[44,41,31,100]) ?_ ?_); exact rfl)
       unfold Hid
       refine wpList_buildB rfl 44 #[] rfl #[.slice none 0 0,.slice none 0 0,.slice none 0 0,.slice none 0 0,I 0,.slice none 0 0,.bool false,I 0,I 0,I 0,I 0,I 0,I 0,.slice none 0 0,I 0,I 0,.bool false,I 0,I 0,.slice none 0 0] (by kernel_rfl) (fun v37 H_v37=>?_)
       go_wp2_with ((with_reducible refine zst (L:=[44,41,31,100]) ?_ ?_); exact rfl)
       unfold Hid
       refine wpList_storeW rfl 44 (.tmp 2) (.tmp 37) rfl b0 rfl _ (zcv H_v37) B_b0 rfl (by kernel_rfl) rfl (fun w41_ M41=>?_)
       replace B_b0:=zwb M41
       replace B_b1:=zwg M41 B_b1 D_b0_b1
       replace EW:=zwe M41 EW O_b0
       go_wp2
       have z0:=run_box (P:=Tryz.prog) 44 B_b0.out Tryz.underlying44 (by kernel_rfl)
       refine bodyPost_ret (by simp [results,Tryz.results23,asAddr,z0]; rfl) rfl ?_
       exact ⟨_,rfl,EW.out,Rd.all fun w=>⟨_,_,rfl,.inr ⟨rfl,HW.out,HN.out⟩⟩⟩
     ·have hqx : q = x.length:=by omega
      subst hqx
      clear hql hq
      have hei:=HEI.out
      replace B_b0:=zbx B_b0 hei
      replace B_b1:=zbx B_b1 hei
      replace OC:=Lib.hid (owns_ext OC.out hei)
      replace OCL:=Lib.hid (owns_ext OCL.out hei)
      replace EW:=Lib.hid (EW.out.trans hei)
      clear hei
      have c19:=cell_of (i:=19) B_b1.out rfl
      go_wp2_with ((with_reducible refine zst (L:=[44,41,31,100]) ?_ ?_); exact rfl)
      unfold Hid
      clear c19
      refine wpList_buildB rfl 100 #[(0,.tmp 42)] rfl #[.slice xa x.length xcap,I 0,.bool false,I 0,.slice none 0 0,.slice none 0 0] (by kernel_rfl) (fun v43 H_v43=>?_)
      have hv43:=H_v43.out
      subst hv43
      clear H_v43
      go_wp2_with ((with_reducible refine zst (L:=[44,41,31,100]) ?_ ?_); exact rfl)
      unfold Hid
      refine wpList_litB rfl 100 1 #[.slice xa x.length xcap,I 0,.bool false,I 0,.slice none 0 0,.slice none 0 0] (by kernel_rfl) (fun bl w41_ M41=>?_)
      have D_b0_bl:=zld B_b0 M41
      have D_b1_bl:=zld B_b1 M41
      replace B_b0:=zmo M41 B_b0
      replace B_b1:=zmo M41 B_b1
      have B_bl:=zmb M41
      replace EW:=zet EW M41
      replace OC:=Lib.hid (owns_ext OC.out M41.out.ext)
      replace OCL:=Lib.hid (owns_ext OCL.out M41.out.ext)
      go_wp2_with (first | (at_builtin; refine stop_at ?_) | ((with_reducible refine zst (L:=[44,41,31,100]) ?_ ?_); exact rfl))
      unfold Hid
      have hlit:=Row.of_owns (own_made (base:=0) (size:=6) (n:=1) M41.out (Nat.zero_le _) rfl (by decide))
      have hszl : b1 + 1 ≤ w41_.heap.size:=(Array.getElem?_eq_some_iff.1 B_b1.out).1
      refine wpList_append_row _ rfl (.tmp 41) (.tmp 44) 42 rfl (b1 + 1) 100 j0 (.agg #[.slice none 0 0,I 0,.bool false,I 0,.slice none 0 0,.slice none 0 0]) 6 96 Tryz.underlying42 HJ.out hy0 hy1 hy2 rfl (by decide) (.slice la k lcap) k _ rfl OCL.out _ rfl 1 _ hlit (ones_of rfl) (by have:=H3.out; omega) (by decide) hszl ?_
      intro v45 wq ho hg
      clear hlit hszl
      have hlo : ∀ b,b ≤ b1 → (Value.slice la k lcap).ownBlock ≠ some b:=fun b hb e=>by have:=(OCL.out.lt b e).1; omega
      have kb0:=keep_blk hg B_b0.out (hlo b0 (Nat.le_of_lt D_b0_b1.out))
      have kb1:=keep_blk hg B_b1.out (hlo b1 (Nat.le_refl _))
      have koc:=OC.out.kept hg (own_types OC.out OCL.out (by decide))
      have kew : Ext w wq:=EW.out.grown hg (fun b e=>by have q:=(OCL.out.lt b e).1; have q2:=O_b1.out; omega)
      replace B_b0:=Lib.hid kb0
      replace B_b1:=Lib.hid kb1
      replace OC:=Lib.hid koc
      replace EW:=Lib.hid kew
      clear kb0 kb1 koc kew hlo hg
      have hcsn:=newCs_snoc cvs k _ HCVK.out
      have OCN : Hid (wq.ownsRow (b1 + 1) 100 6 v45 (k + 1) (newCsOf (cvs.take (k + 1))).flatten):=by unfold Hid; rw [hcsn]; exact ho
      clear ho OCL hcsn
      obtain ⟨na,ncap,rfl⟩:=own_slice' OCN.out
      go_wp2_with ((with_reducible refine zst (L:=[44,41,31,100]) ?_ ?_); exact rfl)
      unfold Hid
      refine wpList_storeP rfl 42 (.tmp 46) (.tmp 45) rfl b1 19 rfl [.slice na (k + 1) ncap] (rfl) B_b1 rfl (by kernel_rfl) rfl [.slice (some ⟨bc,0,none⟩) 11 11,.slice none 0 0,.slice none 0 0,.slice none 0 0,I 0,.slice none 0 0,.bool false,I 0,I 0,I 0,I 0,I 0,I 0,.slice none 0 0,I 0,I 0,.bool true,I 0,I 0,.slice na (k + 1) ncap] rfl (fun w42_ M42=>?_)
      replace B_b0:=zwl M42 B_b0 D_b0_b1
      replace B_b1:=zwb M42
      replace OC:=Lib.hid (M42.out.owns OC.out (own_ne_gtN D_bc_b1.out))
      replace OCN:=Lib.hid (M42.out.owns OCN.out (fun e=>by have q:=(OCN.out.lt _ e).1; omega))
      replace EW:=zwe M42 EW O_b1
      go_wp2
      go_roundw
      case rel =>
       refine ⟨k + 1,_,by omega,by go_num,fun j x' hj hx'=>?_,B_b0.out,B_b1.out,OC.out,OCN.out,EW.out⟩
       by_cases hjk : j = k
       ·subst hjk
        have hx2 : l[j]? = some x':=hx'
        rw [HX.out] at hx2
        cases hx2
        refine ⟨by have:=H8.out; omega,fun y hy=>?_⟩
        obtain ⟨q,hq⟩:=List.mem_iff_getElem?.1 hy
        exact HALL.out q y (List.getElem?_eq_some_iff.1 hq).1 hq
       ·exact HOK.out j x' (by omega) hx'
      case measure=>simp [intOf]; omega
  ·have hkl : k = l.length:=by omega
   subst hkl
   have hrl : rightL l:=⟨by have:=H3.out; omega,fun c hc=>by
    obtain ⟨j,hj⟩:=List.mem_iff_getElem?.1 hc
    exact HOK.out j c (List.getElem?_eq_some_iff.1 hj).1 hj⟩
   have HRL:=Lib.hid hrl
   clear hrl
   go_wp2_with ((with_reducible refine zst (L:=[44,41,31,100]) ?_ ?_); exact rfl)
   unfold Hid
   refine wpList_loadW rfl 44 (.tmp 4) rfl b1 rfl B_b1 Tryz.underlying44 (by kernel_rfl) (fun v48 H_v48=>?_)
   go_wp2_with ((with_reducible refine zst (L:=[44,41,31,100]) ?_ ?_); exact rfl)
   unfold Hid
   refine wpList_storeW rfl 44 (.tmp 2) (.tmp 48) rfl b0 rfl _ (zcv H_v48) B_b0 rfl (by kernel_rfl) rfl (fun w41_ M41=>?_)
   replace B_b0:=zwb M41
   replace B_b1:=zwg M41 B_b1 D_b0_b1
   replace OC:=Lib.hid (M41.out.owns OC.out (own_ne_lt D_b0_bc.out))
   replace OCL:=Lib.hid (M41.out.owns OCL.out (fun e=>by have q:=(OCL.out.lt _ e).1; have q2:=D_b0_b1.out; omega))
   replace EW:=zwe M41 EW O_b0
   go_wp2
   have z0:=run_box (P:=Tryz.prog) 44 B_b0.out Tryz.underlying44 (by kernel_rfl)
   refine bodyPost_ret (by simp [results,Tryz.results23,asAddr,z0]; rfl) rfl ?_
   have hocl:=OCL.out
   rw [List.take_of_length_le (by rw [HCL.out]; exact Nat.le_refl _)] at hocl
   have hev : Rd A (fun w=>Each 6 elCn w (newCsOf cvs) (l.map newCn)) w41_:=(HE.out.ext EW.out).imp fun w hw=>each_new HCL.out (fun k x cv hx hcv=>by
    have hk : k < css.length:=by rw [hw.1]; exact (List.getElem?_eq_some_iff.1 hx).1
    have hc : css[k]? = some css[k]:=List.getElem?_eq_getElem hk
    obtain ⟨_,cv',h7,h8⟩:=hw.2 k _ x hc hx
    have h9:=flatten_get (by decide) hw.sizes hc (j:=0) (u:=cv') (by rw [h7]; rfl)
    rw [Nat.mul_one,Nat.add_zero,HCV.out,hcv] at h9
    cases h9
    exact h8)
   have hcl:=rd_own_of (A:=fun k=>A k ∨ w.heap.size ≤ k) (fun k h _=>.inr (by have q:=O_b1.out; omega)) (hev.widen fun k _ h=>.inl h) hocl (by decide)
   have hci:=(rd_ints OC.out).widen (B:=fun k=>A k ∨ w.heap.size ≤ k) (fun k _ h=>.inr (by have q:=O_bc.out; omega))
   refine ⟨_,rfl,EW.out,(RdM.mc (m:=newMc l) (A:=fun k=>A k ∨ w.heap.size ≤ k) ⟨hci,Rd.all fun w=>writes_nil w,Rd.all fun w=>RowOf.nil w,Rd.all fun w=>RowOf.nil w,Rd.all fun w=>RowOf.nil w,Rd.all fun w=>writes_nil w,hcl⟩).imp fun w h=>⟨_,_,rfl,.inl ⟨rfl,HRL.out,h⟩⟩⟩

theorem rd_new {l : List (List Cl)} {r : Value} {A : Nat → Prop} {w : World} (h : Rd A (NewT l r) w) : ∃ (cs : List Value) (e : Int),r = .tuple #[.agg cs.toArray,I e] ∧ ((e = 0 ∧ rightL l ∧ Rd A (fun w=>elMc w cs (newMc l)) w) ∨ (cs = zeroMcs ∧ e ≠ 0 ∧ ¬ rightL l)):=by
 obtain ⟨cs,e,e1,h1⟩:=h.out
 refine ⟨cs,e,e1,?_⟩
 rcases h1 with ⟨h2,h3,_⟩ | h2
 ·refine .inl ⟨h2,h3,h.imp fun w' hw=>?_⟩
  obtain ⟨cs2,e2,e3,h4⟩:=hw
  rw [e1] at e3
  have : cs = cs2 ∧ e = e2:=by simpa using e3
  obtain ⟨rfl,rfl⟩:=this
  rcases h4 with ⟨_,_,h5⟩ | ⟨_,_,h5⟩
  ·exact h5
  ·exact absurd h3 h5
 ·exact .inr h2

set_option maxHeartbeats 1000000 in
theorem refRight_any (v : Value) (l : List (List Cl)) (w : World) (hv : RowOf 1 elCls w v l) :
  Calls Tryz.prog 6 #[v] w fun e w'=>∃ b,e = .returned (.bool b) ∧ (b = true ↔ rightL l) ∧ Ext w w':=by
 have hrv : Rd (fun k=>k < w.heap.size) (fun w=>RowOf 1 elCls w v l) w:=Rd.of (rowOf_heap heapCls v l) hv
 have HV:=Lib.hid hrv
 clear hrv hv
 go_enter Tryz.func6,Tryz.ntmps6
 go_wp2_with fail
 refine (refNew_keeps v l w _ HV.out).to fun r w1 e1 hr=>?_
 obtain ⟨cs,e,rfl,hcs⟩:=rd_new hr
 clear hr
 have EW:=Lib.hid e1
 clear e1
 rcases hcs with ⟨rfl,hrl,hcs⟩ | ⟨rfl,hne,hrl⟩
 ·obtain ⟨c',u',a',p',box',plan',cl',rfl,hm⟩:=rd_mc hcs
  obtain ⟨ca',cc',ua',uc',aa',ac',pa',pc',xa',xc',la',lc',ka',kc',rfl,rfl,rfl,rfl,rfl,rfl,rfl⟩:=hm.slices
  have HRL:=Lib.hid hrl
  clear hcs hm hrl
  have Q0 : Hid (w.heap.size ≤ w1.heap.size):=EW.out.size
  go_wp2_with ((with_reducible refine zst (L:=[44,41,31,100]) ?_ ?_); exact rfl)
  unfold Hid
  refine wpList_allocB rfl 44 #[.slice none 0 0,.slice none 0 0,.slice none 0 0,.slice none 0 0,I 0,.slice none 0 0,.bool false,I 0,I 0,I 0,I 0,I 0,I 0,.slice none 0 0,I 0,I 0,.bool false,I 0,I 0,.slice none 0 0] (by kernel_rfl) (fun b0 w1_ M1=>?_)
  have B_b0:=zmb M1
  replace EW:=zet EW M1
  have O_b0 : Hid (w.heap.size ≤ b0):=by unfold Hid; have q:=M1.out.at_; have q2:=Q0.out; omega
  go_wp2_with ((with_reducible refine zst (L:=[44,41,31,100]) ?_ ?_); exact rfl)
  unfold Hid
  refine wpList_storeW rfl 44 (.tmp 3) (.tmp 8) rfl b0 rfl [.slice ca' (newMc l).store.cells.length cc',.slice ua' (newMc l).store.undo.length uc',.slice aa' (newMc l).store.answers.length ac',.slice pa' (newMc l).store.past.length pc',I (newMc l).server.gen,.slice xa' (newMc l).server.box.length xc',.bool (newMc l).server.busy,I (newMc l).server.now.client,I (newMc l).server.now.token,I (newMc l).server.now.call.kind,I (newMc l).server.now.call.name,I (newMc l).server.now.call.other,I (newMc l).server.now.call.n,.slice la' (newMc l).server.plan.length lc',I (newMc l).server.says.err,I (newMc l).server.says.n,.bool (newMc l).up,I (newMc l).pause,I (newMc l).falls,.slice ka' (newMc l).clients.length kc'] (rfl) B_b0 rfl (by kernel_rfl) rfl (fun w2_ M2=>?_)
  replace B_b0:=zwb M2
  replace EW:=zwe M2 EW O_b0
  go_wp2
  go_ret
  exact ⟨_,rfl,⟨fun _=>HRL.out,fun _=>rfl⟩,EW.out⟩
 ·have hb : (e == 0) = false:=by simpa using hne
  have HRL:=Lib.hid hrl
  clear hne hrl
  unfold zeroMcs
  have Q0 : Hid (w.heap.size ≤ w1.heap.size):=EW.out.size
  go_wp2_with ((with_reducible refine zst (L:=[44,41,31,100]) ?_ ?_); exact rfl)
  unfold Hid
  refine wpList_allocB rfl 44 #[.slice none 0 0,.slice none 0 0,.slice none 0 0,.slice none 0 0,I 0,.slice none 0 0,.bool false,I 0,I 0,I 0,I 0,I 0,I 0,.slice none 0 0,I 0,I 0,.bool false,I 0,I 0,.slice none 0 0] (by kernel_rfl) (fun b0 w1_ M1=>?_)
  have B_b0:=zmb M1
  replace EW:=zet EW M1
  have O_b0 : Hid (w.heap.size ≤ b0):=by unfold Hid; have q:=M1.out.at_; have q2:=Q0.out; omega
  go_wp2_with ((with_reducible refine zst (L:=[44,41,31,100]) ?_ ?_); exact rfl)
  unfold Hid
  refine wpList_storeW rfl 44 (.tmp 3) (.tmp 8) rfl b0 rfl [.slice none 0 0,.slice none 0 0,.slice none 0 0,.slice none 0 0,I 0,.slice none 0 0,.bool false,I 0,I 0,I 0,I 0,I 0,I 0,.slice none 0 0,I 0,I 0,.bool false,I 0,I 0,.slice none 0 0] (rfl) B_b0 rfl (by kernel_rfl) rfl (fun w2_ M2=>?_)
  replace B_b0:=zwb M2
  replace EW:=zwe M2 EW O_b0
  go_wp2
  go_ret
  exact ⟨_,rfl,⟨(fun h=>by cases h),fun h=>absurd h HRL.out⟩,EW.out⟩

end Go.Proofs.YtdmipnnfooleladGreat
