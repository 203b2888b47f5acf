/- Texts of the proof, merged: N11. -/
import Derived.Test.YtdmipnnfooleladGreatJQ

namespace Go.Proofs.YtdmipnnfooleladGreat
open Go.RowKit Go.Mk
set_option maxRecDepth 100000

theorem serve_bytes (s : St) (v : Sv) : (serveM s v).2.2.1 = [] ∨ ∃ a,(serveM s v).2.2.1 = ansB a:=by
 unfold serveM
 dsimp only
 repeat' split
 all_goals first | exact .inl rfl | exact .inr ⟨_,rfl⟩

set_option maxHeartbeats 2000000 in
theorem refDo_server (m : Mc) (c u a p box plan cl : Value) (n : Int) (w : World) (A : Nat → Prop) (h : RdM A w m c u a p box plan cl) (h1 : m.store.cells.length * 8 ≤ 140737488355328) (h2 : (1 + m.store.undo.length) * 16 ≤ 140737488355328) (h3 : m.store.answers.length ≤ 1000) (h4 : m.store.past.length ≤ 1000000) (hw : m.up = true → m.server.busy = false → Weak m.store.cells) (hl : m.clients.length ≤ 1000) (hcb : ∀ c ∈ m.clients,c.box.length ≤ 1000) :
  Keeps Tryz.prog 24 #[.agg (cells20 m c u a p box plan cl).toArray,.agg #[I 2,I n]] w A (fun r w'=>TupE elMc (doM m 2 n).1 (doM m 2 n).2 r w'):=by
 unfold Keeps
 obtain ⟨ca,cc,ua,uc,aa,ac,pa,pc,xa,xc,la,lc,ka,kc,rfl,rfl,rfl,rfl,rfl,rfl,rfl⟩:=h.slices
 obtain ⟨⟨sc,su,sa,sp⟩,⟨gen,bl,busy,⟨nc,nt,⟨nk,na,no,nn⟩⟩,pl,⟨se,sn⟩⟩,up,pause,falls,cls⟩:=m
 simp only [cells20] at *
 have EW:=Lib.hid (Ext.refl w)
 obtain ⟨B,hB⟩:=away A w.heap.size 3
 have HK:=Lib.hid hB
 clear hB
 have H:=Lib.hid (h.widen HK.out.1)
 clear h
 cases up
 case false =>
  have hX : doM ⟨⟨sc,su,sa,sp⟩,⟨gen,bl,busy,⟨nc,nt,⟨nk,na,no,nn⟩⟩,pl,⟨se,sn⟩⟩,false,pause,falls,cls⟩ 2 n = (⟨⟨sc,su,sa,sp⟩,⟨gen,bl,busy,⟨nc,nt,⟨nk,na,no,nn⟩⟩,pl,⟨se,sn⟩⟩,false,pause,falls,cls⟩,10):=rfl
  rw [hX]
  clear hX h1 h2 h3 h4 hw hl hcb
  go_enter Tryz.func24,Tryz.ntmps24
  go_wp2_with ((with_reducible refine zst (L:=[44,41,31,100]) ?_ ?_); exact rfl)
  unfold Hid
  refine wpList_boxB rfl 44 (.tmp 0) rfl #[.slice ca sc.length cc,.slice ua su.length uc,.slice aa sa.length ac,.slice pa sp.length pc,I gen,.slice xa bl.length xc,.bool busy,I nc,I nt,I nk,I na,I no,I nn,.slice la pl.length lc,I se,I sn,.bool false,I pause,I falls,.slice ka cls.length kc] rfl (fun b0 w1_ M1=>?_)
  have B_b0:=zmb M1
  replace H:=Lib.hid (H.out.ext M1.out.ext)
  replace EW:=zet EW M1
  go_wp2_with ((with_reducible refine zst (L:=[44,41,31,100]) ?_ ?_); exact rfl)
  unfold Hid
  refine wpList_boxB rfl 72 (.tmp 1) rfl #[I 2,I n] rfl (fun b1 w2_ M2=>?_)
  have D_b0_b1:=zld B_b0 M2
  replace B_b0:=zmo M2 B_b0
  have B_b1:=zmb M2
  replace H:=Lib.hid (H.out.ext M2.out.ext)
  replace EW:=zet EW M2
  go_wp2_with ((with_reducible refine zst (L:=[44,41,31,100]) ?_ ?_); exact rfl)
  unfold Hid
  refine wpList_allocB rfl 44 #[.slice none 0 0,.slice none 0 0,.slice none 0 0,.slice none 0 0,I 0,.slice none 0 0,.bool false,I 0,I 0,I 0,I 0,I 0,I 0,.slice none 0 0,I 0,I 0,.bool false,I 0,I 0,.slice none 0 0] (by kernel_rfl) (fun b2 w3_ M3=>?_)
  have D_b0_b2:=zld B_b0 M3
  have D_b1_b2:=zld B_b1 M3
  replace B_b0:=zmo M3 B_b0
  replace B_b1:=zmo M3 B_b1
  have B_b2:=zmb M3
  replace H:=Lib.hid (H.out.ext M3.out.ext)
  replace EW:=zet EW M3
  have A_b0 : Hid (b0 = w.heap.size + 0):=by unfold Hid; have q0:=M1.out.at_; have r0:=M1.out.size; omega
  have N_b0:=znb HK A_b0 (by decide)
  have O_b0:=zob A_b0
  have A_b1 : Hid (b1 = w.heap.size + 1):=by unfold Hid; have q0:=M1.out.at_; have r0:=M1.out.size; have q1:=M2.out.at_; have r1:=M2.out.size; omega
  have N_b1:=znb HK A_b1 (by decide)
  have O_b1:=zob A_b1
  have A_b2 : Hid (b2 = w.heap.size + 2):=by unfold Hid; have q0:=M1.out.at_; have r0:=M1.out.size; have q1:=M2.out.at_; have r1:=M2.out.size; have q2:=M3.out.at_; have r2:=M3.out.size; omega
  have N_b2:=znb HK A_b2 (by decide)
  have O_b2:=zob A_b2
  have k0:=cell_of (i:=0) B_b1.out rfl
  have c16:=cell_of (i:=16) B_b0.out rfl
  go_wp2_with ((with_reducible refine zst (L:=[44,41,31,100]) ?_ ?_); exact rfl)
  unfold Hid
  clear k0 c16
  refine wpList_loadW rfl 44 (.tmp 2) rfl b0 rfl B_b0 Tryz.underlying44 (by kernel_rfl) (fun v80 H_v80=>?_)
  go_wp2_with ((with_reducible refine zst (L:=[44,41,31,100]) ?_ ?_); exact rfl)
  unfold Hid
  refine wpList_storeW rfl 44 (.tmp 4) (.tmp 80) rfl b2 rfl _ (zcv H_v80) B_b2 rfl (by kernel_rfl) rfl (fun w4_ M4=>?_)
  replace B_b0:=zwl M4 B_b0 D_b0_b2
  replace B_b1:=zwl M4 B_b1 D_b1_b2
  replace B_b2:=zwb M4
  replace H:=Lib.hid (M4.out.rdM H.out N_b2.out)
  replace EW:=zwe M4 EW O_b2
  go_wp2
  have z0:=run_box (P:=Tryz.prog) 44 B_b2.out Tryz.underlying44 (by kernel_rfl)
  refine bodyPost_ret (by simp [results,Tryz.results24,asAddr,z0]; rfl) rfl ?_
  exact ⟨_,rfl,EW.out,Rd.widen (A:=B) (tupE_rd (RdM.mc (m:=⟨⟨sc,su,sa,sp⟩,⟨gen,bl,busy,⟨nc,nt,⟨nk,na,no,nn⟩⟩,pl,⟨se,sn⟩⟩,false,pause,falls,cls⟩) H.out)) (fun k _ h=>HK.out.2.2.2 k h)⟩
 obtain ⟨XS,XV,XB,XE,hSV⟩ : ∃ x y z u,serveM ⟨sc,su,sa,sp⟩ ⟨gen,bl,busy,⟨nc,nt,⟨nk,na,no,nn⟩⟩,pl,⟨se,sn⟩⟩ = (x,y,z,u):=⟨_,_,_,_,rfl⟩
 have hby:=serve_bytes ⟨sc,su,sa,sp⟩ ⟨gen,bl,busy,⟨nc,nt,⟨nk,na,no,nn⟩⟩,pl,⟨se,sn⟩⟩
 rw [hSV] at hby
 have hX : doM ⟨⟨sc,su,sa,sp⟩,⟨gen,bl,busy,⟨nc,nt,⟨nk,na,no,nn⟩⟩,pl,⟨se,sn⟩⟩,true,pause,falls,cls⟩ 2 n = if XE ≠ 0 then (⟨⟨sc,su,sa,sp⟩,⟨gen,bl,busy,⟨nc,nt,⟨nk,na,no,nn⟩⟩,pl,⟨se,sn⟩⟩,true,pause,falls,cls⟩,XE) else if XB ≠ [] then (if (XB.getD 1 0).toNat < cls.length then (⟨XS,XV,true,pause,falls,(cls.set (XB.getD 1 0).toNat (comeCn (cls.getD (XB.getD 1 0).toNat (newCn [])) XB))⟩,0) else (⟨XS,XV,true,pause,falls,cls⟩,0)) else (⟨XS,XV,true,pause,falls,cls⟩,0):=by
  unfold doM
  rw [if_neg (by decide),if_pos rfl,if_neg (by simp)]
  simp only [hSV]
 rw [hX]
 have HSV:=Lib.hid hSV
 have HBY:=Lib.hid hby
 have HQ:=Lib.hid (And.intro h1 (And.intro h2 (And.intro h3 (And.intro h4 (hw rfl)))))
 have HL:=Lib.hid hl
 have HCB:=Lib.hid hcb
 clear hSV hby hX h1 h2 h3 h4 hw hl hcb
 by_cases he : XE = 0
 case neg =>
  rw [if_pos he]
  have hb : (XE != 0) = true:=by simpa using he
  clear he
  go_enter Tryz.func24,Tryz.ntmps24
  go_wp2_with ((with_reducible refine zst (L:=[44,41,31,100]) ?_ ?_); exact rfl)
  unfold Hid
  refine wpList_boxB rfl 44 (.tmp 0) rfl #[.slice ca sc.length cc,.slice ua su.length uc,.slice aa sa.length ac,.slice pa sp.length pc,I gen,.slice xa bl.length xc,.bool busy,I nc,I nt,I nk,I na,I no,I nn,.slice la pl.length lc,I se,I sn,.bool true,I pause,I falls,.slice ka cls.length kc] rfl (fun b0 w1_ M1=>?_)
  have B_b0:=zmb M1
  replace H:=Lib.hid (H.out.ext M1.out.ext)
  replace EW:=zet EW M1
  go_wp2_with ((with_reducible refine zst (L:=[44,41,31,100]) ?_ ?_); exact rfl)
  unfold Hid
  refine wpList_boxB rfl 72 (.tmp 1) rfl #[I 2,I n] rfl (fun b1 w2_ M2=>?_)
  have D_b0_b1:=zld B_b0 M2
  replace B_b0:=zmo M2 B_b0
  have B_b1:=zmb M2
  replace H:=Lib.hid (H.out.ext M2.out.ext)
  replace EW:=zet EW M2
  go_wp2_with ((with_reducible refine zst (L:=[44,41,31,100]) ?_ ?_); exact rfl)
  unfold Hid
  refine wpList_allocB rfl 44 #[.slice none 0 0,.slice none 0 0,.slice none 0 0,.slice none 0 0,I 0,.slice none 0 0,.bool false,I 0,I 0,I 0,I 0,I 0,I 0,.slice none 0 0,I 0,I 0,.bool false,I 0,I 0,.slice none 0 0] (by kernel_rfl) (fun b2 w3_ M3=>?_)
  have D_b0_b2:=zld B_b0 M3
  have D_b1_b2:=zld B_b1 M3
  replace B_b0:=zmo M3 B_b0
  replace B_b1:=zmo M3 B_b1
  have B_b2:=zmb M3
  replace H:=Lib.hid (H.out.ext M3.out.ext)
  replace EW:=zet EW M3
  have A_b0 : Hid (b0 = w.heap.size + 0):=by unfold Hid; have q0:=M1.out.at_; have r0:=M1.out.size; omega
  have N_b0:=znb HK A_b0 (by decide)
  have O_b0:=zob A_b0
  have A_b1 : Hid (b1 = w.heap.size + 1):=by unfold Hid; have q0:=M1.out.at_; have r0:=M1.out.size; have q1:=M2.out.at_; have r1:=M2.out.size; omega
  have N_b1:=znb HK A_b1 (by decide)
  have O_b1:=zob A_b1
  have A_b2 : Hid (b2 = w.heap.size + 2):=by unfold Hid; have q0:=M1.out.at_; have r0:=M1.out.size; have q1:=M2.out.at_; have r1:=M2.out.size; have q2:=M3.out.at_; have r2:=M3.out.size; omega
  have N_b2:=znb HK A_b2 (by decide)
  have O_b2:=zob A_b2
  have k0:=cell_of (i:=0) B_b1.out rfl
  have c16:=cell_of (i:=16) B_b0.out rfl
  go_wp2_with ((with_reducible refine zst (L:=[44,41,31,100]) ?_ ?_); exact rfl)
  unfold Hid
  clear k0 c16
  refine wpList_loadP rfl 31 (.tmp 82) rfl b0 0 rfl B_b0 [.slice ca sc.length cc,.slice ua su.length uc,.slice aa sa.length ac,.slice pa sp.length pc] rfl Tryz.underlying31 (by kernel_rfl) (fun v83 H_v83=>?_)
  go_wp2_with ((with_reducible refine zst (L:=[44,41,31,100]) ?_ ?_); exact rfl)
  unfold Hid
  refine wpList_loadP rfl 41 (.tmp 84) rfl b0 4 rfl B_b0 [I gen,.slice xa bl.length xc,.bool busy,I nc,I nt,I nk,I na,I no,I nn,.slice la pl.length lc,I se,I sn] rfl Tryz.underlying41 (by kernel_rfl) (fun v85 H_v85=>?_)
  go_wp2_with fail
  rw [show _ = Value.agg #[.slice ca sc.length cc,.slice ua su.length uc,.slice aa sa.length ac,.slice pa sp.length pc] from H_v83.out,show _ = Value.agg #[I gen,.slice xa bl.length xc,.bool busy,I nc,I nt,I nk,I na,I no,I nn,.slice la pl.length lc,I se,I sn] from H_v85.out]
  refine (refServe_keeps ⟨sc,su,sa,sp⟩ ⟨gen,bl,busy,⟨nc,nt,⟨nk,na,no,nn⟩⟩,pl,⟨se,sn⟩⟩ _ _ _ _ _ _ w3_ B (st_rd (s:=⟨sc,su,sa,sp⟩) H.out.cells H.out.undo H.out.answers H.out.past) H.out.box H.out.plan HQ.out.1 HQ.out.2.1 HQ.out.2.2.1 HQ.out.2.2.2.1 HQ.out.2.2.2.2).to fun r w9 e9 hr=>?_
  rw [HSV.out] at hr
  simp only [] at hr
  obtain ⟨cs,ds,bv,rfl,hcs,hds,hbv⟩:=rd_tup4 hr
  obtain ⟨c',u',a',p',rfl,r1,r2,r3,r4⟩:=rd_st hcs
  obtain ⟨box',plan',rfl,r5,r6⟩:=rd_sv hds
  obtain ⟨ca',cc',rfl⟩:=row_slice r1.out
  obtain ⟨ua',uc',rfl⟩:=row_slice r2.out
  obtain ⟨aa',ac',rfl⟩:=rowOf_slice r3.out
  obtain ⟨pa',pc',rfl⟩:=rowOf_slice r4.out
  obtain ⟨xa',xc',rfl⟩:=rowOf_slice r5.out
  obtain ⟨la',lc',rfl⟩:=row_slice r6.out
  obtain ⟨ya,yc,rfl⟩:=row_slice hbv.out
  have hsz : w.heap.size + 3 ≤ w3_.heap.size:=by have q:=(Array.getElem?_eq_some_iff.1 B_b2.out).1; have q2:=A_b2.out; omega
  have hin : ∀ k,k < w9.heap.size → (B k ∨ w3_.heap.size ≤ k) → B k:=fun k _ h=>by
   rcases h with h | h
   ·exact h
   ·exact HK.out.2.1 k (by omega)
  have R1:=Lib.hid (r1.widen hin)
  have R2:=Lib.hid (r2.widen hin)
  have R3:=Lib.hid (r3.widen hin)
  have R4:=Lib.hid (r4.widen hin)
  have R5:=Lib.hid (r5.widen hin)
  have R6:=Lib.hid (r6.widen hin)
  have RY:=Lib.hid (hbv.widen hin)
  clear hr hcs hds hbv r1 r2 r3 r4 r5 r6 hin hsz
  replace B_b0:=zbx B_b0 e9
  replace B_b1:=zbx B_b1 e9
  replace B_b2:=zbx B_b2 e9
  replace H:=Lib.hid (H.out.ext e9)
  replace EW:=Lib.hid (EW.out.trans e9)
  go_wp2_with ((with_reducible refine zst (L:=[44,41,31,100]) ?_ ?_); exact rfl)
  unfold Hid
  refine wpList_allocB rfl 31 #[.slice none 0 0,.slice none 0 0,.slice none 0 0,.slice none 0 0] (by kernel_rfl) (fun b3 w4_ M4=>?_)
  have D_b0_b3:=zld B_b0 M4
  have D_b1_b3:=zld B_b1 M4
  have D_b2_b3:=zld B_b2 M4
  obtain ⟨B1,HB1⟩ : ∃ X : Nat → Prop,Hid (∀ k,X k ↔ (B k ∧ k ≠ b3)):=⟨_,fun _=>Iff.rfl⟩
  replace H:=Lib.hid (H.out.widen (B:=B1) (fun k hk h=>(HB1.out k).2 ⟨h,by have q2:=M4.out.at_; omega⟩))
  replace R1:=zmd HB1 M4 R1
  replace R2:=zmd HB1 M4 R2
  replace R3:=zmd HB1 M4 R3
  replace R4:=zmd HB1 M4 R4
  replace R5:=zmd HB1 M4 R5
  replace R6:=zmd HB1 M4 R6
  replace RY:=zmd HB1 M4 RY
  replace N_b0:=znw HB1 N_b0
  replace N_b1:=znw HB1 N_b1
  replace N_b2:=znw HB1 N_b2
  have N_b3 : Hid (¬ B1 b3):=fun h=>((HB1.out _).1 h).2 rfl
  have I_B1 : Hid (∀ k,B1 k → B k):=fun k h=>((HB1.out k).1 h).1
  have O_b3 : Hid (w.heap.size ≤ b3):=by unfold Hid; have q2:=M4.out.at_; have q3:=EW.out.size; omega
  replace B_b0:=zmo M4 B_b0
  replace B_b1:=zmo M4 B_b1
  replace B_b2:=zmo M4 B_b2
  have B_b3:=zmb M4
  replace H:=Lib.hid (H.out.ext M4.out.ext)
  replace R1:=zme M4 R1
  replace R2:=zme M4 R2
  replace R3:=zme M4 R3
  replace R4:=zme M4 R4
  replace R5:=zme M4 R5
  replace R6:=zme M4 R6
  replace RY:=zme M4 RY
  replace EW:=zet EW M4
  go_wp2_with ((with_reducible refine zst (L:=[44,41,31,100]) ?_ ?_); exact rfl)
  unfold Hid
  refine wpList_allocB rfl 41 #[I 0,.slice none 0 0,.bool false,I 0,I 0,I 0,I 0,I 0,I 0,.slice none 0 0,I 0,I 0] (by kernel_rfl) (fun b4 w5_ M5=>?_)
  have D_b0_b4:=zld B_b0 M5
  have D_b1_b4:=zld B_b1 M5
  have D_b2_b4:=zld B_b2 M5
  have D_b3_b4:=zld B_b3 M5
  obtain ⟨B11,HB11⟩ : ∃ X : Nat → Prop,Hid (∀ k,X k ↔ (B1 k ∧ k ≠ b4)):=⟨_,fun _=>Iff.rfl⟩
  replace H:=Lib.hid (H.out.widen (B:=B11) (fun k hk h=>(HB11.out k).2 ⟨h,by have q2:=M5.out.at_; omega⟩))
  replace R1:=zmd HB11 M5 R1
  replace R2:=zmd HB11 M5 R2
  replace R3:=zmd HB11 M5 R3
  replace R4:=zmd HB11 M5 R4
  replace R5:=zmd HB11 M5 R5
  replace R6:=zmd HB11 M5 R6
  replace RY:=zmd HB11 M5 RY
  replace N_b0:=znw HB11 N_b0
  replace N_b1:=znw HB11 N_b1
  replace N_b2:=znw HB11 N_b2
  replace N_b3:=znw HB11 N_b3
  have N_b4 : Hid (¬ B11 b4):=fun h=>((HB11.out _).1 h).2 rfl
  have I_B11 : Hid (∀ k,B11 k → B1 k):=fun k h=>((HB11.out k).1 h).1
  have O_b4 : Hid (w.heap.size ≤ b4):=by unfold Hid; have q2:=M5.out.at_; have q3:=EW.out.size; omega
  replace B_b0:=zmo M5 B_b0
  replace B_b1:=zmo M5 B_b1
  replace B_b2:=zmo M5 B_b2
  replace B_b3:=zmo M5 B_b3
  have B_b4:=zmb M5
  replace H:=Lib.hid (H.out.ext M5.out.ext)
  replace R1:=zme M5 R1
  replace R2:=zme M5 R2
  replace R3:=zme M5 R3
  replace R4:=zme M5 R4
  replace R5:=zme M5 R5
  replace R6:=zme M5 R6
  replace RY:=zme M5 RY
  replace EW:=zet EW M5
  go_wp2_with ((with_reducible refine zst (L:=[44,41,31,100]) ?_ ?_); exact rfl)
  unfold Hid
  refine wpList_storeW rfl 31 (.tmp 11) (.tmp 87) rfl b3 rfl [.slice ca' XS.cells.length cc',.slice ua' XS.undo.length uc',.slice aa' XS.answers.length ac',.slice pa' XS.past.length pc'] (rfl) B_b3 rfl (by kernel_rfl) rfl (fun w6_ M6=>?_)
  replace B_b0:=zwl M6 B_b0 D_b0_b3
  replace B_b1:=zwl M6 B_b1 D_b1_b3
  replace B_b2:=zwl M6 B_b2 D_b2_b3
  replace B_b3:=zwb M6
  replace B_b4:=zwg M6 B_b4 D_b3_b4
  replace H:=Lib.hid (M6.out.rdM H.out N_b3.out)
  replace R1:=zwr M6 R1 N_b3
  replace R2:=zwr M6 R2 N_b3
  replace R3:=zwr M6 R3 N_b3
  replace R4:=zwr M6 R4 N_b3
  replace R5:=zwr M6 R5 N_b3
  replace R6:=zwr M6 R6 N_b3
  replace RY:=zwr M6 RY N_b3
  replace EW:=zwe M6 EW O_b3
  go_wp2_with ((with_reducible refine zst (L:=[44,41,31,100]) ?_ ?_); exact rfl)
  unfold Hid
  refine wpList_storeW rfl 41 (.tmp 12) (.tmp 88) rfl b4 rfl [I XV.gen,.slice xa' XV.box.length xc',.bool XV.busy,I XV.now.client,I XV.now.token,I XV.now.call.kind,I XV.now.call.name,I XV.now.call.other,I XV.now.call.n,.slice la' XV.plan.length lc',I XV.says.err,I XV.says.n] (rfl) B_b4 rfl (by kernel_rfl) rfl (fun w7_ M7=>?_)
  replace B_b0:=zwl M7 B_b0 D_b0_b4
  replace B_b1:=zwl M7 B_b1 D_b1_b4
  replace B_b2:=zwl M7 B_b2 D_b2_b4
  replace B_b3:=zwl M7 B_b3 D_b3_b4
  replace B_b4:=zwb M7
  replace H:=Lib.hid (M7.out.rdM H.out N_b4.out)
  replace R1:=zwr M7 R1 N_b4
  replace R2:=zwr M7 R2 N_b4
  replace R3:=zwr M7 R3 N_b4
  replace R4:=zwr M7 R4 N_b4
  replace R5:=zwr M7 R5 N_b4
  replace R6:=zwr M7 R6 N_b4
  replace RY:=zwr M7 RY N_b4
  replace EW:=zwe M7 EW O_b4
  go_wp2_with ((with_reducible refine zst (L:=[44,41,31,100]) ?_ ?_); exact rfl)
  unfold Hid
  refine wpList_loadW rfl 44 (.tmp 2) rfl b0 rfl B_b0 Tryz.underlying44 (by kernel_rfl) (fun v93 H_v93=>?_)
  go_wp2_with ((with_reducible refine zst (L:=[44,41,31,100]) ?_ ?_); exact rfl)
  unfold Hid
  refine wpList_storeW rfl 44 (.tmp 4) (.tmp 93) rfl b2 rfl _ (zcv H_v93) B_b2 rfl (by kernel_rfl) rfl (fun w8_ M8=>?_)
  replace B_b0:=zwl M8 B_b0 D_b0_b2
  replace B_b1:=zwl M8 B_b1 D_b1_b2
  replace B_b2:=zwb M8
  replace B_b3:=zwg M8 B_b3 D_b2_b3
  replace B_b4:=zwg M8 B_b4 D_b2_b4
  replace H:=Lib.hid (M8.out.rdM H.out N_b2.out)
  replace R1:=zwr M8 R1 N_b2
  replace R2:=zwr M8 R2 N_b2
  replace R3:=zwr M8 R3 N_b2
  replace R4:=zwr M8 R4 N_b2
  replace R5:=zwr M8 R5 N_b2
  replace R6:=zwr M8 R6 N_b2
  replace RY:=zwr M8 RY N_b2
  replace EW:=zwe M8 EW O_b2
  go_wp2
  have z0:=run_box (P:=Tryz.prog) 44 B_b2.out Tryz.underlying44 (by kernel_rfl)
  refine bodyPost_ret (by simp [results,Tryz.results24,asAddr,z0]; rfl) rfl ?_
  exact ⟨_,rfl,EW.out,Rd.widen (A:=B11) (tupE_rd (RdM.mc (m:=⟨⟨sc,su,sa,sp⟩,⟨gen,bl,busy,⟨nc,nt,⟨nk,na,no,nn⟩⟩,pl,⟨se,sn⟩⟩,true,pause,falls,cls⟩) H.out)) (fun k _ h=>HK.out.2.2.2 k (I_B1.out k (I_B11.out k h)))⟩
 rw [if_neg (by simpa using he)]
 subst he
 by_cases hxb : XB = []
 case pos =>
  subst hxb
  rw [if_neg (by simp)]
  go_enter Tryz.func24,Tryz.ntmps24
  go_wp2_with ((with_reducible refine zst (L:=[44,41,31,100]) ?_ ?_); exact rfl)
  unfold Hid
  refine wpList_boxB rfl 44 (.tmp 0) rfl #[.slice ca sc.length cc,.slice ua su.length uc,.slice aa sa.length ac,.slice pa sp.length pc,I gen,.slice xa bl.length xc,.bool busy,I nc,I nt,I nk,I na,I no,I nn,.slice la pl.length lc,I se,I sn,.bool true,I pause,I falls,.slice ka cls.length kc] rfl (fun b0 w1_ M1=>?_)
  have B_b0:=zmb M1
  replace H:=Lib.hid (H.out.ext M1.out.ext)
  replace EW:=zet EW M1
  go_wp2_with ((with_reducible refine zst (L:=[44,41,31,100]) ?_ ?_); exact rfl)
  unfold Hid
  refine wpList_boxB rfl 72 (.tmp 1) rfl #[I 2,I n] rfl (fun b1 w2_ M2=>?_)
  have D_b0_b1:=zld B_b0 M2
  replace B_b0:=zmo M2 B_b0
  have B_b1:=zmb M2
  replace H:=Lib.hid (H.out.ext M2.out.ext)
  replace EW:=zet EW M2
  go_wp2_with ((with_reducible refine zst (L:=[44,41,31,100]) ?_ ?_); exact rfl)
  unfold Hid
  refine wpList_allocB rfl 44 #[.slice none 0 0,.slice none 0 0,.slice none 0 0,.slice none 0 0,I 0,.slice none 0 0,.bool false,I 0,I 0,I 0,I 0,I 0,I 0,.slice none 0 0,I 0,I 0,.bool false,I 0,I 0,.slice none 0 0] (by kernel_rfl) (fun b2 w3_ M3=>?_)
  have D_b0_b2:=zld B_b0 M3
  have D_b1_b2:=zld B_b1 M3
  replace B_b0:=zmo M3 B_b0
  replace B_b1:=zmo M3 B_b1
  have B_b2:=zmb M3
  replace H:=Lib.hid (H.out.ext M3.out.ext)
  replace EW:=zet EW M3
  have A_b0 : Hid (b0 = w.heap.size + 0):=by unfold Hid; have q0:=M1.out.at_; have r0:=M1.out.size; omega
  have N_b0:=znb HK A_b0 (by decide)
  have O_b0:=zob A_b0
  have A_b1 : Hid (b1 = w.heap.size + 1):=by unfold Hid; have q0:=M1.out.at_; have r0:=M1.out.size; have q1:=M2.out.at_; have r1:=M2.out.size; omega
  have N_b1:=znb HK A_b1 (by decide)
  have O_b1:=zob A_b1
  have A_b2 : Hid (b2 = w.heap.size + 2):=by unfold Hid; have q0:=M1.out.at_; have r0:=M1.out.size; have q1:=M2.out.at_; have r1:=M2.out.size; have q2:=M3.out.at_; have r2:=M3.out.size; omega
  have N_b2:=znb HK A_b2 (by decide)
  have O_b2:=zob A_b2
  have k0:=cell_of (i:=0) B_b1.out rfl
  have c16:=cell_of (i:=16) B_b0.out rfl
  go_wp2_with ((with_reducible refine zst (L:=[44,41,31,100]) ?_ ?_); exact rfl)
  unfold Hid
  clear k0 c16
  refine wpList_loadP rfl 31 (.tmp 82) rfl b0 0 rfl B_b0 [.slice ca sc.length cc,.slice ua su.length uc,.slice aa sa.length ac,.slice pa sp.length pc] rfl Tryz.underlying31 (by kernel_rfl) (fun v83 H_v83=>?_)
  go_wp2_with ((with_reducible refine zst (L:=[44,41,31,100]) ?_ ?_); exact rfl)
  unfold Hid
  refine wpList_loadP rfl 41 (.tmp 84) rfl b0 4 rfl B_b0 [I gen,.slice xa bl.length xc,.bool busy,I nc,I nt,I nk,I na,I no,I nn,.slice la pl.length lc,I se,I sn] rfl Tryz.underlying41 (by kernel_rfl) (fun v85 H_v85=>?_)
  go_wp2_with fail
  rw [show _ = Value.agg #[.slice ca sc.length cc,.slice ua su.length uc,.slice aa sa.length ac,.slice pa sp.length pc] from H_v83.out,show _ = Value.agg #[I gen,.slice xa bl.length xc,.bool busy,I nc,I nt,I nk,I na,I no,I nn,.slice la pl.length lc,I se,I sn] from H_v85.out]
  refine (refServe_keeps ⟨sc,su,sa,sp⟩ ⟨gen,bl,busy,⟨nc,nt,⟨nk,na,no,nn⟩⟩,pl,⟨se,sn⟩⟩ _ _ _ _ _ _ w3_ B (st_rd (s:=⟨sc,su,sa,sp⟩) H.out.cells H.out.undo H.out.answers H.out.past) H.out.box H.out.plan HQ.out.1 HQ.out.2.1 HQ.out.2.2.1 HQ.out.2.2.2.1 HQ.out.2.2.2.2).to fun r w9 e9 hr=>?_
  rw [HSV.out] at hr
  simp only [] at hr
  obtain ⟨cs,ds,bv,rfl,hcs,hds,hbv⟩:=rd_tup4 hr
  obtain ⟨c',u',a',p',rfl,r1,r2,r3,r4⟩:=rd_st hcs
  obtain ⟨box',plan',rfl,r5,r6⟩:=rd_sv hds
  obtain ⟨ca',cc',rfl⟩:=row_slice r1.out
  obtain ⟨ua',uc',rfl⟩:=row_slice r2.out
  obtain ⟨aa',ac',rfl⟩:=rowOf_slice r3.out
  obtain ⟨pa',pc',rfl⟩:=rowOf_slice r4.out
  obtain ⟨xa',xc',rfl⟩:=rowOf_slice r5.out
  obtain ⟨la',lc',rfl⟩:=row_slice r6.out
  obtain ⟨ya,yc,rfl⟩:=row_slice hbv.out
  have hsz : w.heap.size + 3 ≤ w3_.heap.size:=by have q:=(Array.getElem?_eq_some_iff.1 B_b2.out).1; have q2:=A_b2.out; omega
  have hin : ∀ k,k < w9.heap.size → (B k ∨ w3_.heap.size ≤ k) → B k:=fun k _ h=>by
   rcases h with h | h
   ·exact h
   ·exact HK.out.2.1 k (by omega)
  have R1:=Lib.hid (r1.widen hin)
  have R2:=Lib.hid (r2.widen hin)
  have R3:=Lib.hid (r3.widen hin)
  have R4:=Lib.hid (r4.widen hin)
  have R5:=Lib.hid (r5.widen hin)
  have R6:=Lib.hid (r6.widen hin)
  have RY:=Lib.hid (hbv.widen hin)
  clear hr hcs hds hbv r1 r2 r3 r4 r5 r6 hin hsz
  replace B_b0:=zbx B_b0 e9
  replace B_b1:=zbx B_b1 e9
  replace B_b2:=zbx B_b2 e9
  replace H:=Lib.hid (H.out.ext e9)
  replace EW:=Lib.hid (EW.out.trans e9)
  go_wp2_with ((with_reducible refine zst (L:=[44,41,31,100]) ?_ ?_); exact rfl)
  unfold Hid
  refine wpList_allocB rfl 31 #[.slice none 0 0,.slice none 0 0,.slice none 0 0,.slice none 0 0] (by kernel_rfl) (fun b3 w4_ M4=>?_)
  have D_b0_b3:=zld B_b0 M4
  have D_b1_b3:=zld B_b1 M4
  have D_b2_b3:=zld B_b2 M4
  obtain ⟨B1,HB1⟩ : ∃ X : Nat → Prop,Hid (∀ k,X k ↔ (B k ∧ k ≠ b3)):=⟨_,fun _=>Iff.rfl⟩
  replace H:=Lib.hid (H.out.widen (B:=B1) (fun k hk h=>(HB1.out k).2 ⟨h,by have q2:=M4.out.at_; omega⟩))
  replace R1:=zmd HB1 M4 R1
  replace R2:=zmd HB1 M4 R2
  replace R3:=zmd HB1 M4 R3
  replace R4:=zmd HB1 M4 R4
  replace R5:=zmd HB1 M4 R5
  replace R6:=zmd HB1 M4 R6
  replace RY:=zmd HB1 M4 RY
  replace N_b0:=znw HB1 N_b0
  replace N_b1:=znw HB1 N_b1
  replace N_b2:=znw HB1 N_b2
  have N_b3 : Hid (¬ B1 b3):=fun h=>((HB1.out _).1 h).2 rfl
  have I_B1 : Hid (∀ k,B1 k → B k):=fun k h=>((HB1.out k).1 h).1
  have O_b3 : Hid (w.heap.size ≤ b3):=by unfold Hid; have q2:=M4.out.at_; have q3:=EW.out.size; omega
  replace B_b0:=zmo M4 B_b0
  replace B_b1:=zmo M4 B_b1
  replace B_b2:=zmo M4 B_b2
  have B_b3:=zmb M4
  replace H:=Lib.hid (H.out.ext M4.out.ext)
  replace R1:=zme M4 R1
  replace R2:=zme M4 R2
  replace R3:=zme M4 R3
  replace R4:=zme M4 R4
  replace R5:=zme M4 R5
  replace R6:=zme M4 R6
  replace RY:=zme M4 RY
  replace EW:=zet EW M4
  go_wp2_with ((with_reducible refine zst (L:=[44,41,31,100]) ?_ ?_); exact rfl)
  unfold Hid
  refine wpList_allocB rfl 41 #[I 0,.slice none 0 0,.bool false,I 0,I 0,I 0,I 0,I 0,I 0,.slice none 0 0,I 0,I 0] (by kernel_rfl) (fun b4 w5_ M5=>?_)
  have D_b0_b4:=zld B_b0 M5
  have D_b1_b4:=zld B_b1 M5
  have D_b2_b4:=zld B_b2 M5
  have D_b3_b4:=zld B_b3 M5
  obtain ⟨B11,HB11⟩ : ∃ X : Nat → Prop,Hid (∀ k,X k ↔ (B1 k ∧ k ≠ b4)):=⟨_,fun _=>Iff.rfl⟩
  replace H:=Lib.hid (H.out.widen (B:=B11) (fun k hk h=>(HB11.out k).2 ⟨h,by have q2:=M5.out.at_; omega⟩))
  replace R1:=zmd HB11 M5 R1
  replace R2:=zmd HB11 M5 R2
  replace R3:=zmd HB11 M5 R3
  replace R4:=zmd HB11 M5 R4
  replace R5:=zmd HB11 M5 R5
  replace R6:=zmd HB11 M5 R6
  replace RY:=zmd HB11 M5 RY
  replace N_b0:=znw HB11 N_b0
  replace N_b1:=znw HB11 N_b1
  replace N_b2:=znw HB11 N_b2
  replace N_b3:=znw HB11 N_b3
  have N_b4 : Hid (¬ B11 b4):=fun h=>((HB11.out _).1 h).2 rfl
  have I_B11 : Hid (∀ k,B11 k → B1 k):=fun k h=>((HB11.out k).1 h).1
  have O_b4 : Hid (w.heap.size ≤ b4):=by unfold Hid; have q2:=M5.out.at_; have q3:=EW.out.size; omega
  replace B_b0:=zmo M5 B_b0
  replace B_b1:=zmo M5 B_b1
  replace B_b2:=zmo M5 B_b2
  replace B_b3:=zmo M5 B_b3
  have B_b4:=zmb M5
  replace H:=Lib.hid (H.out.ext M5.out.ext)
  replace R1:=zme M5 R1
  replace R2:=zme M5 R2
  replace R3:=zme M5 R3
  replace R4:=zme M5 R4
  replace R5:=zme M5 R5
  replace R6:=zme M5 R6
  replace RY:=zme M5 RY
  replace EW:=zet EW M5
  go_wp2_with ((with_reducible refine zst (L:=[44,41,31,100]) ?_ ?_); exact rfl)
  unfold Hid
  refine wpList_storeW rfl 31 (.tmp 11) (.tmp 87) rfl b3 rfl [.slice ca' XS.cells.length cc',.slice ua' XS.undo.length uc',.slice aa' XS.answers.length ac',.slice pa' XS.past.length pc'] (rfl) B_b3 rfl (by kernel_rfl) rfl (fun w6_ M6=>?_)
  replace B_b0:=zwl M6 B_b0 D_b0_b3
  replace B_b1:=zwl M6 B_b1 D_b1_b3
  replace B_b2:=zwl M6 B_b2 D_b2_b3
  replace B_b3:=zwb M6
  replace B_b4:=zwg M6 B_b4 D_b3_b4
  replace H:=Lib.hid (M6.out.rdM H.out N_b3.out)
  replace R1:=zwr M6 R1 N_b3
  replace R2:=zwr M6 R2 N_b3
  replace R3:=zwr M6 R3 N_b3
  replace R4:=zwr M6 R4 N_b3
  replace R5:=zwr M6 R5 N_b3
  replace R6:=zwr M6 R6 N_b3
  replace RY:=zwr M6 RY N_b3
  replace EW:=zwe M6 EW O_b3
  go_wp2_with ((with_reducible refine zst (L:=[44,41,31,100]) ?_ ?_); exact rfl)
  unfold Hid
  refine wpList_storeW rfl 41 (.tmp 12) (.tmp 88) rfl b4 rfl [I XV.gen,.slice xa' XV.box.length xc',.bool XV.busy,I XV.now.client,I XV.now.token,I XV.now.call.kind,I XV.now.call.name,I XV.now.call.other,I XV.now.call.n,.slice la' XV.plan.length lc',I XV.says.err,I XV.says.n] (rfl) B_b4 rfl (by kernel_rfl) rfl (fun w7_ M7=>?_)
  replace B_b0:=zwl M7 B_b0 D_b0_b4
  replace B_b1:=zwl M7 B_b1 D_b1_b4
  replace B_b2:=zwl M7 B_b2 D_b2_b4
  replace B_b3:=zwl M7 B_b3 D_b3_b4
  replace B_b4:=zwb M7
  replace H:=Lib.hid (M7.out.rdM H.out N_b4.out)
  replace R1:=zwr M7 R1 N_b4
  replace R2:=zwr M7 R2 N_b4
  replace R3:=zwr M7 R3 N_b4
  replace R4:=zwr M7 R4 N_b4
  replace R5:=zwr M7 R5 N_b4
  replace R6:=zwr M7 R6 N_b4
  replace RY:=zwr M7 RY N_b4
  replace EW:=zwe M7 EW O_b4
  go_wp2_with fail
  refine held_drew (S:=fun w'=>w'.heap[b3]? = some (.cells #[.slice ca' XS.cells.length cc',.slice ua' XS.undo.length uc',.slice aa' XS.answers.length ac',.slice pa' XS.past.length pc'] 31 (0,0)) ∧ w'.heap[b4]? = some (.cells #[I XV.gen,.slice xa' XV.box.length xc',.bool XV.busy,I XV.now.client,I XV.now.token,I XV.now.call.kind,I XV.now.call.name,I XV.now.call.other,I XV.now.call.n,.slice la' XV.plan.length lc',I XV.says.err,I XV.says.n] 41 (0,0))) (by kernel_rfl) (fun wd ed _=>?_)
  replace B_b0:=zbx B_b0 ed
  replace B_b1:=zbx B_b1 ed
  replace B_b2:=zbx B_b2 ed
  replace B_b3:=zbx B_b3 ed
  replace B_b4:=zbx B_b4 ed
  replace H:=Lib.hid (H.out.ext ed)
  replace R1:=zrx R1 ed
  replace R2:=zrx R2 ed
  replace R3:=zrx R3 ed
  replace R4:=zrx R4 ed
  replace R5:=zrx R5 ed
  replace R6:=zrx R6 ed
  replace RY:=zrx RY ed
  replace EW:=Lib.hid (EW.out.trans ed)
  have HSS : Hid (wd.heap[b3]? = some (.cells #[.slice ca' XS.cells.length cc',.slice ua' XS.undo.length uc',.slice aa' XS.answers.length ac',.slice pa' XS.past.length pc'] 31 (0,0)) ∧ wd.heap[b4]? = some (.cells #[I XV.gen,.slice xa' XV.box.length xc',.bool XV.busy,I XV.now.client,I XV.now.token,I XV.now.call.kind,I XV.now.call.name,I XV.now.call.other,I XV.now.call.n,.slice la' XV.plan.length lc',I XV.says.err,I XV.says.n] 41 (0,0))):=⟨B_b3.out,B_b4.out⟩
  refine held_loadW 0 rfl (by kernel_rfl) (by kernel_rfl) (by kernel_rfl) (fun _ _ _ _ h=>h) rfl 31 (.tmp 11) rfl b3 rfl (fun w' hS=>hS.1) Tryz.underlying31 (by kernel_rfl) HSS ?_
  refine held_norm (fun K hK=>?_); go_simp; refine hK _ ?_; clear hK K
  refine held_loadW 1 rfl (by kernel_rfl) (by kernel_rfl) (by kernel_rfl) (fun _ _ _ _ h=>h) rfl 41 (.tmp 12) rfl b4 rfl (fun w' hS=>hS.2) Tryz.underlying41 (by kernel_rfl) HSS ?_
  refine held_norm (fun K hK=>?_); go_simp; refine hK _ ?_; clear hK K
  refine held_pure 2 rfl (by kernel_rfl) (by kernel_rfl) (by kernel_rfl) (fun _ _ _ _ h=>h) rfl HSS.out (fun K hK=>?_); go_simp; refine hK _ ?_; clear hK K
  refine held_store 3 (by kernel_rfl) rfl rfl 31 (.tmp 97) (.tmp 95) rfl b0 0 rfl [.slice ca' XS.cells.length cc',.slice ua' XS.undo.length uc',.slice aa' XS.answers.length ac',.slice pa' XS.past.length pc'] (rfl) B_b0.out (Nat.le_of_ble_eq_true rfl) (by kernel_rfl) (ones_of rfl) #[.slice ca' XS.cells.length cc',.slice ua' XS.undo.length uc',.slice aa' XS.answers.length ac',.slice pa' XS.past.length pc',I gen,.slice xa bl.length xc,.bool busy,I nc,I nt,I nk,I na,I no,I nn,.slice la pl.length lc,I se,I sn,.bool true,I pause,I falls,.slice ka cls.length kc] ((splN_eq _ _ _ (Nat.le_of_ble_eq_true rfl)).trans rfl) (fun w8_ M8=>⟨?_,?_⟩)
  ·exact ⟨M8.out.old B_b3.out (Nat.ne_of_gt D_b0_b3.out),M8.out.old B_b4.out (Nat.ne_of_gt D_b0_b4.out)⟩
  replace B_b0:=zwb M8
  replace B_b1:=zwg M8 B_b1 D_b0_b1
  replace B_b2:=zwg M8 B_b2 D_b0_b2
  replace B_b3:=zwg M8 B_b3 D_b0_b3
  replace B_b4:=zwg M8 B_b4 D_b0_b4
  replace H:=Lib.hid (M8.out.rdM H.out N_b0.out)
  replace R1:=zwr M8 R1 N_b0
  replace R2:=zwr M8 R2 N_b0
  replace R3:=zwr M8 R3 N_b0
  replace R4:=zwr M8 R4 N_b0
  replace R5:=zwr M8 R5 N_b0
  replace R6:=zwr M8 R6 N_b0
  replace RY:=zwr M8 RY N_b0
  replace EW:=zwe M8 EW O_b0
  clear HSS
  have HSS : Hid (w8_.heap[b3]? = some (.cells #[.slice ca' XS.cells.length cc',.slice ua' XS.undo.length uc',.slice aa' XS.answers.length ac',.slice pa' XS.past.length pc'] 31 (0,0)) ∧ w8_.heap[b4]? = some (.cells #[I XV.gen,.slice xa' XV.box.length xc',.bool XV.busy,I XV.now.client,I XV.now.token,I XV.now.call.kind,I XV.now.call.name,I XV.now.call.other,I XV.now.call.n,.slice la' XV.plan.length lc',I XV.says.err,I XV.says.n] 41 (0,0))):=⟨B_b3.out,B_b4.out⟩
  refine held_norm (fun K hK=>?_); go_simp; refine hK _ ?_; clear hK K
  refine held_pure 4 rfl (by kernel_rfl) (by kernel_rfl) (by kernel_rfl) (fun _ _ _ _ h=>h) rfl HSS.out (fun K hK=>?_); go_simp; refine hK _ ?_; clear hK K
  refine held_store 5 (by kernel_rfl) rfl rfl 41 (.tmp 98) (.tmp 96) rfl b0 4 rfl [I XV.gen,.slice xa' XV.box.length xc',.bool XV.busy,I XV.now.client,I XV.now.token,I XV.now.call.kind,I XV.now.call.name,I XV.now.call.other,I XV.now.call.n,.slice la' XV.plan.length lc',I XV.says.err,I XV.says.n] (rfl) B_b0.out (Nat.le_of_ble_eq_true rfl) (by kernel_rfl) (ones_of rfl) #[.slice ca' XS.cells.length cc',.slice ua' XS.undo.length uc',.slice aa' XS.answers.length ac',.slice pa' XS.past.length pc',I XV.gen,.slice xa' XV.box.length xc',.bool XV.busy,I XV.now.client,I XV.now.token,I XV.now.call.kind,I XV.now.call.name,I XV.now.call.other,I XV.now.call.n,.slice la' XV.plan.length lc',I XV.says.err,I XV.says.n,.bool true,I pause,I falls,.slice ka cls.length kc] ((splN_eq _ _ _ (Nat.le_of_ble_eq_true rfl)).trans rfl) (fun w9_ M9=>⟨?_,?_⟩)
  ·exact ⟨M9.out.old B_b3.out (Nat.ne_of_gt D_b0_b3.out),M9.out.old B_b4.out (Nat.ne_of_gt D_b0_b4.out)⟩
  replace B_b0:=zwb M9
  replace B_b1:=zwg M9 B_b1 D_b0_b1
  replace B_b2:=zwg M9 B_b2 D_b0_b2
  replace B_b3:=zwg M9 B_b3 D_b0_b3
  replace B_b4:=zwg M9 B_b4 D_b0_b4
  replace H:=Lib.hid (M9.out.rdM H.out N_b0.out)
  replace R1:=zwr M9 R1 N_b0
  replace R2:=zwr M9 R2 N_b0
  replace R3:=zwr M9 R3 N_b0
  replace R4:=zwr M9 R4 N_b0
  replace R5:=zwr M9 R5 N_b0
  replace R6:=zwr M9 R6 N_b0
  replace RY:=zwr M9 RY N_b0
  replace EW:=zwe M9 EW O_b0
  clear HSS
  have HSS : Hid (w9_.heap[b3]? = some (.cells #[.slice ca' XS.cells.length cc',.slice ua' XS.undo.length uc',.slice aa' XS.answers.length ac',.slice pa' XS.past.length pc'] 31 (0,0)) ∧ w9_.heap[b4]? = some (.cells #[I XV.gen,.slice xa' XV.box.length xc',.bool XV.busy,I XV.now.client,I XV.now.token,I XV.now.call.kind,I XV.now.call.name,I XV.now.call.other,I XV.now.call.n,.slice la' XV.plan.length lc',I XV.says.err,I XV.says.n] 41 (0,0))):=⟨B_b3.out,B_b4.out⟩
  refine held_norm (fun K hK=>?_); go_simp; refine hK _ ?_; clear hK K
  refine wpAnyH_done (by kernel_rfl) ?_ _
  clear HSS
  go_wp2_with ((with_reducible refine zst (L:=[44,41,31,100]) ?_ ?_); exact rfl)
  unfold Hid
  refine wpList_loadW rfl 44 (.tmp 2) rfl b0 rfl B_b0 Tryz.underlying44 (by kernel_rfl) (fun v121 H_v121=>?_)
  go_wp2_with ((with_reducible refine zst (L:=[44,41,31,100]) ?_ ?_); exact rfl)
  unfold Hid
  refine wpList_storeW rfl 44 (.tmp 4) (.tmp 121) rfl b2 rfl _ (zcv H_v121) B_b2 rfl (by kernel_rfl) rfl (fun w10_ M10=>?_)
  replace B_b0:=zwl M10 B_b0 D_b0_b2
  replace B_b1:=zwl M10 B_b1 D_b1_b2
  replace B_b2:=zwb M10
  replace B_b3:=zwg M10 B_b3 D_b2_b3
  replace B_b4:=zwg M10 B_b4 D_b2_b4
  replace H:=Lib.hid (M10.out.rdM H.out N_b2.out)
  replace R1:=zwr M10 R1 N_b2
  replace R2:=zwr M10 R2 N_b2
  replace R3:=zwr M10 R3 N_b2
  replace R4:=zwr M10 R4 N_b2
  replace R5:=zwr M10 R5 N_b2
  replace R6:=zwr M10 R6 N_b2
  replace RY:=zwr M10 RY N_b2
  replace EW:=zwe M10 EW O_b2
  go_wp2
  have z0:=run_box (P:=Tryz.prog) 44 B_b2.out Tryz.underlying44 (by kernel_rfl)
  refine bodyPost_ret (by simp [results,Tryz.results24,asAddr,z0]; rfl) rfl ?_
  exact ⟨_,rfl,EW.out,Rd.widen (A:=B11) (tupE_rd (RdM.mc (m:=⟨XS,XV,true,pause,falls,cls⟩) ⟨R1.out,R2.out,R3.out,R4.out,R5.out,R6.out,H.out.clients⟩)) (fun k _ h=>HK.out.2.2.2 k (I_B1.out k (I_B11.out k h)))⟩
 rw [if_pos hxb]
 obtain ⟨XA,hXA⟩ : ∃ a,XB = ansB a:=by
  rcases HBY.out with h | h
  ·exact absurd h hxb
  ·exact h
 have hlen : XB.length = 8:=by rw [hXA]; rfl
 have HLEN:=Lib.hid hlen
 obtain ⟨yv,hyv⟩ : ∃ x,XB.getD 1 0 = x:=⟨_,rfl⟩
 rw [hyv]
 have HYV:=Lib.hid hyv
 clear hXA hlen hxb hyv
 by_cases hkl : yv.toNat < cls.length
 case neg =>
  rw [if_neg hkl]
  have hkn : ¬ ((yv.toNat : Int) < (cls.length : Int)):=by omega
  clear hkl
  go_enter Tryz.func24,Tryz.ntmps24
  go_wp2_with ((with_reducible refine zst (L:=[44,41,31,100]) ?_ ?_); exact rfl)
  unfold Hid
  refine wpList_boxB rfl 44 (.tmp 0) rfl #[.slice ca sc.length cc,.slice ua su.length uc,.slice aa sa.length ac,.slice pa sp.length pc,I gen,.slice xa bl.length xc,.bool busy,I nc,I nt,I nk,I na,I no,I nn,.slice la pl.length lc,I se,I sn,.bool true,I pause,I falls,.slice ka cls.length kc] rfl (fun b0 w1_ M1=>?_)
  have B_b0:=zmb M1
  replace H:=Lib.hid (H.out.ext M1.out.ext)
  replace EW:=zet EW M1
  go_wp2_with ((with_reducible refine zst (L:=[44,41,31,100]) ?_ ?_); exact rfl)
  unfold Hid
  refine wpList_boxB rfl 72 (.tmp 1) rfl #[I 2,I n] rfl (fun b1 w2_ M2=>?_)
  have D_b0_b1:=zld B_b0 M2
  replace B_b0:=zmo M2 B_b0
  have B_b1:=zmb M2
  replace H:=Lib.hid (H.out.ext M2.out.ext)
  replace EW:=zet EW M2
  go_wp2_with ((with_reducible refine zst (L:=[44,41,31,100]) ?_ ?_); exact rfl)
  unfold Hid
  refine wpList_allocB rfl 44 #[.slice none 0 0,.slice none 0 0,.slice none 0 0,.slice none 0 0,I 0,.slice none 0 0,.bool false,I 0,I 0,I 0,I 0,I 0,I 0,.slice none 0 0,I 0,I 0,.bool false,I 0,I 0,.slice none 0 0] (by kernel_rfl) (fun b2 w3_ M3=>?_)
  have D_b0_b2:=zld B_b0 M3
  have D_b1_b2:=zld B_b1 M3
  replace B_b0:=zmo M3 B_b0
  replace B_b1:=zmo M3 B_b1
  have B_b2:=zmb M3
  replace H:=Lib.hid (H.out.ext M3.out.ext)
  replace EW:=zet EW M3
  have A_b0 : Hid (b0 = w.heap.size + 0):=by unfold Hid; have q0:=M1.out.at_; have r0:=M1.out.size; omega
  have N_b0:=znb HK A_b0 (by decide)
  have O_b0:=zob A_b0
  have A_b1 : Hid (b1 = w.heap.size + 1):=by unfold Hid; have q0:=M1.out.at_; have r0:=M1.out.size; have q1:=M2.out.at_; have r1:=M2.out.size; omega
  have N_b1:=znb HK A_b1 (by decide)
  have O_b1:=zob A_b1
  have A_b2 : Hid (b2 = w.heap.size + 2):=by unfold Hid; have q0:=M1.out.at_; have r0:=M1.out.size; have q1:=M2.out.at_; have r1:=M2.out.size; have q2:=M3.out.at_; have r2:=M3.out.size; omega
  have N_b2:=znb HK A_b2 (by decide)
  have O_b2:=zob A_b2
  have k0:=cell_of (i:=0) B_b1.out rfl
  have c16:=cell_of (i:=16) B_b0.out rfl
  go_wp2_with ((with_reducible refine zst (L:=[44,41,31,100]) ?_ ?_); exact rfl)
  unfold Hid
  clear k0 c16
  refine wpList_loadP rfl 31 (.tmp 82) rfl b0 0 rfl B_b0 [.slice ca sc.length cc,.slice ua su.length uc,.slice aa sa.length ac,.slice pa sp.length pc] rfl Tryz.underlying31 (by kernel_rfl) (fun v83 H_v83=>?_)
  go_wp2_with ((with_reducible refine zst (L:=[44,41,31,100]) ?_ ?_); exact rfl)
  unfold Hid
  refine wpList_loadP rfl 41 (.tmp 84) rfl b0 4 rfl B_b0 [I gen,.slice xa bl.length xc,.bool busy,I nc,I nt,I nk,I na,I no,I nn,.slice la pl.length lc,I se,I sn] rfl Tryz.underlying41 (by kernel_rfl) (fun v85 H_v85=>?_)
  go_wp2_with fail
  rw [show _ = Value.agg #[.slice ca sc.length cc,.slice ua su.length uc,.slice aa sa.length ac,.slice pa sp.length pc] from H_v83.out,show _ = Value.agg #[I gen,.slice xa bl.length xc,.bool busy,I nc,I nt,I nk,I na,I no,I nn,.slice la pl.length lc,I se,I sn] from H_v85.out]
  refine (refServe_keeps ⟨sc,su,sa,sp⟩ ⟨gen,bl,busy,⟨nc,nt,⟨nk,na,no,nn⟩⟩,pl,⟨se,sn⟩⟩ _ _ _ _ _ _ w3_ B (st_rd (s:=⟨sc,su,sa,sp⟩) H.out.cells H.out.undo H.out.answers H.out.past) H.out.box H.out.plan HQ.out.1 HQ.out.2.1 HQ.out.2.2.1 HQ.out.2.2.2.1 HQ.out.2.2.2.2).to fun r w9 e9 hr=>?_
  rw [HSV.out] at hr
  simp only [] at hr
  obtain ⟨cs,ds,bv,rfl,hcs,hds,hbv⟩:=rd_tup4 hr
  obtain ⟨c',u',a',p',rfl,r1,r2,r3,r4⟩:=rd_st hcs
  obtain ⟨box',plan',rfl,r5,r6⟩:=rd_sv hds
  obtain ⟨ca',cc',rfl⟩:=row_slice r1.out
  obtain ⟨ua',uc',rfl⟩:=row_slice r2.out
  obtain ⟨aa',ac',rfl⟩:=rowOf_slice r3.out
  obtain ⟨pa',pc',rfl⟩:=rowOf_slice r4.out
  obtain ⟨xa',xc',rfl⟩:=rowOf_slice r5.out
  obtain ⟨la',lc',rfl⟩:=row_slice r6.out
  obtain ⟨ya,yc,rfl⟩:=row_slice hbv.out
  have hsz : w.heap.size + 3 ≤ w3_.heap.size:=by have q:=(Array.getElem?_eq_some_iff.1 B_b2.out).1; have q2:=A_b2.out; omega
  have hin : ∀ k,k < w9.heap.size → (B k ∨ w3_.heap.size ≤ k) → B k:=fun k _ h=>by
   rcases h with h | h
   ·exact h
   ·exact HK.out.2.1 k (by omega)
  have R1:=Lib.hid (r1.widen hin)
  have R2:=Lib.hid (r2.widen hin)
  have R3:=Lib.hid (r3.widen hin)
  have R4:=Lib.hid (r4.widen hin)
  have R5:=Lib.hid (r5.widen hin)
  have R6:=Lib.hid (r6.widen hin)
  have RY:=Lib.hid (hbv.widen hin)
  clear hr hcs hds hbv r1 r2 r3 r4 r5 r6 hin hsz
  replace B_b0:=zbx B_b0 e9
  replace B_b1:=zbx B_b1 e9
  replace B_b2:=zbx B_b2 e9
  replace H:=Lib.hid (H.out.ext e9)
  replace EW:=Lib.hid (EW.out.trans e9)
  go_wp2_with ((with_reducible refine zst (L:=[44,41,31,100]) ?_ ?_); exact rfl)
  unfold Hid
  refine wpList_allocB rfl 31 #[.slice none 0 0,.slice none 0 0,.slice none 0 0,.slice none 0 0] (by kernel_rfl) (fun b3 w4_ M4=>?_)
  have D_b0_b3:=zld B_b0 M4
  have D_b1_b3:=zld B_b1 M4
  have D_b2_b3:=zld B_b2 M4
  obtain ⟨B1,HB1⟩ : ∃ X : Nat → Prop,Hid (∀ k,X k ↔ (B k ∧ k ≠ b3)):=⟨_,fun _=>Iff.rfl⟩
  replace H:=Lib.hid (H.out.widen (B:=B1) (fun k hk h=>(HB1.out k).2 ⟨h,by have q2:=M4.out.at_; omega⟩))
  replace R1:=zmd HB1 M4 R1
  replace R2:=zmd HB1 M4 R2
  replace R3:=zmd HB1 M4 R3
  replace R4:=zmd HB1 M4 R4
  replace R5:=zmd HB1 M4 R5
  replace R6:=zmd HB1 M4 R6
  replace RY:=zmd HB1 M4 RY
  replace N_b0:=znw HB1 N_b0
  replace N_b1:=znw HB1 N_b1
  replace N_b2:=znw HB1 N_b2
  have N_b3 : Hid (¬ B1 b3):=fun h=>((HB1.out _).1 h).2 rfl
  have I_B1 : Hid (∀ k,B1 k → B k):=fun k h=>((HB1.out k).1 h).1
  have O_b3 : Hid (w.heap.size ≤ b3):=by unfold Hid; have q2:=M4.out.at_; have q3:=EW.out.size; omega
  replace B_b0:=zmo M4 B_b0
  replace B_b1:=zmo M4 B_b1
  replace B_b2:=zmo M4 B_b2
  have B_b3:=zmb M4
  replace H:=Lib.hid (H.out.ext M4.out.ext)
  replace R1:=zme M4 R1
  replace R2:=zme M4 R2
  replace R3:=zme M4 R3
  replace R4:=zme M4 R4
  replace R5:=zme M4 R5
  replace R6:=zme M4 R6
  replace RY:=zme M4 RY
  replace EW:=zet EW M4
  go_wp2_with ((with_reducible refine zst (L:=[44,41,31,100]) ?_ ?_); exact rfl)
  unfold Hid
  refine wpList_allocB rfl 41 #[I 0,.slice none 0 0,.bool false,I 0,I 0,I 0,I 0,I 0,I 0,.slice none 0 0,I 0,I 0] (by kernel_rfl) (fun b4 w5_ M5=>?_)
  have D_b0_b4:=zld B_b0 M5
  have D_b1_b4:=zld B_b1 M5
  have D_b2_b4:=zld B_b2 M5
  have D_b3_b4:=zld B_b3 M5
  obtain ⟨B11,HB11⟩ : ∃ X : Nat → Prop,Hid (∀ k,X k ↔ (B1 k ∧ k ≠ b4)):=⟨_,fun _=>Iff.rfl⟩
  replace H:=Lib.hid (H.out.widen (B:=B11) (fun k hk h=>(HB11.out k).2 ⟨h,by have q2:=M5.out.at_; omega⟩))
  replace R1:=zmd HB11 M5 R1
  replace R2:=zmd HB11 M5 R2
  replace R3:=zmd HB11 M5 R3
  replace R4:=zmd HB11 M5 R4
  replace R5:=zmd HB11 M5 R5
  replace R6:=zmd HB11 M5 R6
  replace RY:=zmd HB11 M5 RY
  replace N_b0:=znw HB11 N_b0
  replace N_b1:=znw HB11 N_b1
  replace N_b2:=znw HB11 N_b2
  replace N_b3:=znw HB11 N_b3
  have N_b4 : Hid (¬ B11 b4):=fun h=>((HB11.out _).1 h).2 rfl
  have I_B11 : Hid (∀ k,B11 k → B1 k):=fun k h=>((HB11.out k).1 h).1
  have O_b4 : Hid (w.heap.size ≤ b4):=by unfold Hid; have q2:=M5.out.at_; have q3:=EW.out.size; omega
  replace B_b0:=zmo M5 B_b0
  replace B_b1:=zmo M5 B_b1
  replace B_b2:=zmo M5 B_b2
  replace B_b3:=zmo M5 B_b3
  have B_b4:=zmb M5
  replace H:=Lib.hid (H.out.ext M5.out.ext)
  replace R1:=zme M5 R1
  replace R2:=zme M5 R2
  replace R3:=zme M5 R3
  replace R4:=zme M5 R4
  replace R5:=zme M5 R5
  replace R6:=zme M5 R6
  replace RY:=zme M5 RY
  replace EW:=zet EW M5
  go_wp2_with ((with_reducible refine zst (L:=[44,41,31,100]) ?_ ?_); exact rfl)
  unfold Hid
  refine wpList_storeW rfl 31 (.tmp 11) (.tmp 87) rfl b3 rfl [.slice ca' XS.cells.length cc',.slice ua' XS.undo.length uc',.slice aa' XS.answers.length ac',.slice pa' XS.past.length pc'] (rfl) B_b3 rfl (by kernel_rfl) rfl (fun w6_ M6=>?_)
  replace B_b0:=zwl M6 B_b0 D_b0_b3
  replace B_b1:=zwl M6 B_b1 D_b1_b3
  replace B_b2:=zwl M6 B_b2 D_b2_b3
  replace B_b3:=zwb M6
  replace B_b4:=zwg M6 B_b4 D_b3_b4
  replace H:=Lib.hid (M6.out.rdM H.out N_b3.out)
  replace R1:=zwr M6 R1 N_b3
  replace R2:=zwr M6 R2 N_b3
  replace R3:=zwr M6 R3 N_b3
  replace R4:=zwr M6 R4 N_b3
  replace R5:=zwr M6 R5 N_b3
  replace R6:=zwr M6 R6 N_b3
  replace RY:=zwr M6 RY N_b3
  replace EW:=zwe M6 EW O_b3
  go_wp2_with ((with_reducible refine zst (L:=[44,41,31,100]) ?_ ?_); exact rfl)
  unfold Hid
  refine wpList_storeW rfl 41 (.tmp 12) (.tmp 88) rfl b4 rfl [I XV.gen,.slice xa' XV.box.length xc',.bool XV.busy,I XV.now.client,I XV.now.token,I XV.now.call.kind,I XV.now.call.name,I XV.now.call.other,I XV.now.call.n,.slice la' XV.plan.length lc',I XV.says.err,I XV.says.n] (rfl) B_b4 rfl (by kernel_rfl) rfl (fun w7_ M7=>?_)
  replace B_b0:=zwl M7 B_b0 D_b0_b4
  replace B_b1:=zwl M7 B_b1 D_b1_b4
  replace B_b2:=zwl M7 B_b2 D_b2_b4
  replace B_b3:=zwl M7 B_b3 D_b3_b4
  replace B_b4:=zwb M7
  replace H:=Lib.hid (M7.out.rdM H.out N_b4.out)
  replace R1:=zwr M7 R1 N_b4
  replace R2:=zwr M7 R2 N_b4
  replace R3:=zwr M7 R3 N_b4
  replace R4:=zwr M7 R4 N_b4
  replace R5:=zwr M7 R5 N_b4
  replace R6:=zwr M7 R6 N_b4
  replace RY:=zwr M7 RY N_b4
  replace EW:=zwe M7 EW O_b4
  go_wp2_with fail
  refine held_drew (S:=fun w'=>w'.heap[b3]? = some (.cells #[.slice ca' XS.cells.length cc',.slice ua' XS.undo.length uc',.slice aa' XS.answers.length ac',.slice pa' XS.past.length pc'] 31 (0,0)) ∧ w'.heap[b4]? = some (.cells #[I XV.gen,.slice xa' XV.box.length xc',.bool XV.busy,I XV.now.client,I XV.now.token,I XV.now.call.kind,I XV.now.call.name,I XV.now.call.other,I XV.now.call.n,.slice la' XV.plan.length lc',I XV.says.err,I XV.says.n] 41 (0,0))) (by kernel_rfl) (fun wd ed _=>?_)
  replace B_b0:=zbx B_b0 ed
  replace B_b1:=zbx B_b1 ed
  replace B_b2:=zbx B_b2 ed
  replace B_b3:=zbx B_b3 ed
  replace B_b4:=zbx B_b4 ed
  replace H:=Lib.hid (H.out.ext ed)
  replace R1:=zrx R1 ed
  replace R2:=zrx R2 ed
  replace R3:=zrx R3 ed
  replace R4:=zrx R4 ed
  replace R5:=zrx R5 ed
  replace R6:=zrx R6 ed
  replace RY:=zrx RY ed
  replace EW:=Lib.hid (EW.out.trans ed)
  have HSS : Hid (wd.heap[b3]? = some (.cells #[.slice ca' XS.cells.length cc',.slice ua' XS.undo.length uc',.slice aa' XS.answers.length ac',.slice pa' XS.past.length pc'] 31 (0,0)) ∧ wd.heap[b4]? = some (.cells #[I XV.gen,.slice xa' XV.box.length xc',.bool XV.busy,I XV.now.client,I XV.now.token,I XV.now.call.kind,I XV.now.call.name,I XV.now.call.other,I XV.now.call.n,.slice la' XV.plan.length lc',I XV.says.err,I XV.says.n] 41 (0,0))):=⟨B_b3.out,B_b4.out⟩
  refine held_loadW 0 rfl (by kernel_rfl) (by kernel_rfl) (by kernel_rfl) (fun _ _ _ _ h=>h) rfl 31 (.tmp 11) rfl b3 rfl (fun w' hS=>hS.1) Tryz.underlying31 (by kernel_rfl) HSS ?_
  refine held_norm (fun K hK=>?_); go_simp; refine hK _ ?_; clear hK K
  refine held_loadW 1 rfl (by kernel_rfl) (by kernel_rfl) (by kernel_rfl) (fun _ _ _ _ h=>h) rfl 41 (.tmp 12) rfl b4 rfl (fun w' hS=>hS.2) Tryz.underlying41 (by kernel_rfl) HSS ?_
  refine held_norm (fun K hK=>?_); go_simp; refine hK _ ?_; clear hK K
  refine held_pure 2 rfl (by kernel_rfl) (by kernel_rfl) (by kernel_rfl) (fun _ _ _ _ h=>h) rfl HSS.out (fun K hK=>?_); go_simp; refine hK _ ?_; clear hK K
  refine held_store 3 (by kernel_rfl) rfl rfl 31 (.tmp 97) (.tmp 95) rfl b0 0 rfl [.slice ca' XS.cells.length cc',.slice ua' XS.undo.length uc',.slice aa' XS.answers.length ac',.slice pa' XS.past.length pc'] (rfl) B_b0.out (Nat.le_of_ble_eq_true rfl) (by kernel_rfl) (ones_of rfl) #[.slice ca' XS.cells.length cc',.slice ua' XS.undo.length uc',.slice aa' XS.answers.length ac',.slice pa' XS.past.length pc',I gen,.slice xa bl.length xc,.bool busy,I nc,I nt,I nk,I na,I no,I nn,.slice la pl.length lc,I se,I sn,.bool true,I pause,I falls,.slice ka cls.length kc] ((splN_eq _ _ _ (Nat.le_of_ble_eq_true rfl)).trans rfl) (fun w8_ M8=>⟨?_,?_⟩)
  ·exact ⟨M8.out.old B_b3.out (Nat.ne_of_gt D_b0_b3.out),M8.out.old B_b4.out (Nat.ne_of_gt D_b0_b4.out)⟩
  replace B_b0:=zwb M8
  replace B_b1:=zwg M8 B_b1 D_b0_b1
  replace B_b2:=zwg M8 B_b2 D_b0_b2
  replace B_b3:=zwg M8 B_b3 D_b0_b3
  replace B_b4:=zwg M8 B_b4 D_b0_b4
  replace H:=Lib.hid (M8.out.rdM H.out N_b0.out)
  replace R1:=zwr M8 R1 N_b0
  replace R2:=zwr M8 R2 N_b0
  replace R3:=zwr M8 R3 N_b0
  replace R4:=zwr M8 R4 N_b0
  replace R5:=zwr M8 R5 N_b0
  replace R6:=zwr M8 R6 N_b0
  replace RY:=zwr M8 RY N_b0
  replace EW:=zwe M8 EW O_b0
  clear HSS
  have HSS : Hid (w8_.heap[b3]? = some (.cells #[.slice ca' XS.cells.length cc',.slice ua' XS.undo.length uc',.slice aa' XS.answers.length ac',.slice pa' XS.past.length pc'] 31 (0,0)) ∧ w8_.heap[b4]? = some (.cells #[I XV.gen,.slice xa' XV.box.length xc',.bool XV.busy,I XV.now.client,I XV.now.token,I XV.now.call.kind,I XV.now.call.name,I XV.now.call.other,I XV.now.call.n,.slice la' XV.plan.length lc',I XV.says.err,I XV.says.n] 41 (0,0))):=⟨B_b3.out,B_b4.out⟩
  refine held_norm (fun K hK=>?_); go_simp; refine hK _ ?_; clear hK K
  refine held_pure 4 rfl (by kernel_rfl) (by kernel_rfl) (by kernel_rfl) (fun _ _ _ _ h=>h) rfl HSS.out (fun K hK=>?_); go_simp; refine hK _ ?_; clear hK K
  refine held_store 5 (by kernel_rfl) rfl rfl 41 (.tmp 98) (.tmp 96) rfl b0 4 rfl [I XV.gen,.slice xa' XV.box.length xc',.bool XV.busy,I XV.now.client,I XV.now.token,I XV.now.call.kind,I XV.now.call.name,I XV.now.call.other,I XV.now.call.n,.slice la' XV.plan.length lc',I XV.says.err,I XV.says.n] (rfl) B_b0.out (Nat.le_of_ble_eq_true rfl) (by kernel_rfl) (ones_of rfl) #[.slice ca' XS.cells.length cc',.slice ua' XS.undo.length uc',.slice aa' XS.answers.length ac',.slice pa' XS.past.length pc',I XV.gen,.slice xa' XV.box.length xc',.bool XV.busy,I XV.now.client,I XV.now.token,I XV.now.call.kind,I XV.now.call.name,I XV.now.call.other,I XV.now.call.n,.slice la' XV.plan.length lc',I XV.says.err,I XV.says.n,.bool true,I pause,I falls,.slice ka cls.length kc] ((splN_eq _ _ _ (Nat.le_of_ble_eq_true rfl)).trans rfl) (fun w9_ M9=>⟨?_,?_⟩)
  ·exact ⟨M9.out.old B_b3.out (Nat.ne_of_gt D_b0_b3.out),M9.out.old B_b4.out (Nat.ne_of_gt D_b0_b4.out)⟩
  replace B_b0:=zwb M9
  replace B_b1:=zwg M9 B_b1 D_b0_b1
  replace B_b2:=zwg M9 B_b2 D_b0_b2
  replace B_b3:=zwg M9 B_b3 D_b0_b3
  replace B_b4:=zwg M9 B_b4 D_b0_b4
  replace H:=Lib.hid (M9.out.rdM H.out N_b0.out)
  replace R1:=zwr M9 R1 N_b0
  replace R2:=zwr M9 R2 N_b0
  replace R3:=zwr M9 R3 N_b0
  replace R4:=zwr M9 R4 N_b0
  replace R5:=zwr M9 R5 N_b0
  replace R6:=zwr M9 R6 N_b0
  replace RY:=zwr M9 RY N_b0
  replace EW:=zwe M9 EW O_b0
  clear HSS
  have HSS : Hid (w9_.heap[b3]? = some (.cells #[.slice ca' XS.cells.length cc',.slice ua' XS.undo.length uc',.slice aa' XS.answers.length ac',.slice pa' XS.past.length pc'] 31 (0,0)) ∧ w9_.heap[b4]? = some (.cells #[I XV.gen,.slice xa' XV.box.length xc',.bool XV.busy,I XV.now.client,I XV.now.token,I XV.now.call.kind,I XV.now.call.name,I XV.now.call.other,I XV.now.call.n,.slice la' XV.plan.length lc',I XV.says.err,I XV.says.n] 41 (0,0))):=⟨B_b3.out,B_b4.out⟩
  refine held_norm (fun K hK=>?_); go_simp; refine hK _ ?_; clear hK K
  refine wpAnyH_done (by kernel_rfl) ?_ _
  clear HSS
  obtain ⟨yo,ycap,ey,-,-,hyc⟩:=RY.out.out.form
  simp only [Value.slice.injEq,true_and] at ey
  obtain ⟨rfl,rfl⟩:=ey
  obtain ⟨yb,yf,rfl,hy1⟩:=hyc 1 (by rw [HLEN.out]; decide)
  rw [HYV.out] at hy1
  clear hyc
  have hbw:=wrap_byte yv
  have hl1 : (1 : Int) < (XB.length : Int):=by rw [HLEN.out]; decide
  have hl0 : (0 : Int) < (XB.length : Int):=by rw [HLEN.out]; decide
  have c19:=cell_of (i:=19) B_b0.out rfl
  go_wp2_with ((with_reducible refine zst (L:=[44,41,31,100]) ?_ ?_); exact rfl)
  unfold Hid
  clear c19 hy1 hbw hl1 hl0
  refine wpList_loadW rfl 44 (.tmp 2) rfl b0 rfl B_b0 Tryz.underlying44 (by kernel_rfl) (fun v121 H_v121=>?_)
  go_wp2_with ((with_reducible refine zst (L:=[44,41,31,100]) ?_ ?_); exact rfl)
  unfold Hid
  refine wpList_storeW rfl 44 (.tmp 4) (.tmp 121) rfl b2 rfl _ (zcv H_v121) B_b2 rfl (by kernel_rfl) rfl (fun w10_ M10=>?_)
  replace B_b0:=zwl M10 B_b0 D_b0_b2
  replace B_b1:=zwl M10 B_b1 D_b1_b2
  replace B_b2:=zwb M10
  replace B_b3:=zwg M10 B_b3 D_b2_b3
  replace B_b4:=zwg M10 B_b4 D_b2_b4
  replace H:=Lib.hid (M10.out.rdM H.out N_b2.out)
  replace R1:=zwr M10 R1 N_b2
  replace R2:=zwr M10 R2 N_b2
  replace R3:=zwr M10 R3 N_b2
  replace R4:=zwr M10 R4 N_b2
  replace R5:=zwr M10 R5 N_b2
  replace R6:=zwr M10 R6 N_b2
  replace RY:=zwr M10 RY N_b2
  replace EW:=zwe M10 EW O_b2
  go_wp2
  have z0:=run_box (P:=Tryz.prog) 44 B_b2.out Tryz.underlying44 (by kernel_rfl)
  refine bodyPost_ret (by simp [results,Tryz.results24,asAddr,z0]; rfl) rfl ?_
  exact ⟨_,rfl,EW.out,Rd.widen (A:=B11) (tupE_rd (RdM.mc (m:=⟨XS,XV,true,pause,falls,cls⟩) ⟨R1.out,R2.out,R3.out,R4.out,R5.out,R6.out,H.out.clients⟩)) (fun k _ h=>HK.out.2.2.2 k (I_B1.out k (I_B11.out k h)))⟩
 rw [if_pos hkl]
 have hkn : (yv.toNat : Int) < (cls.length : Int):=by omega
 have hk0 : (0 : Int) ≤ (yv.toNat : Int):=by omega
 have HKL:=Lib.hid hkl
 clear hkl
 obtain ⟨css,hcs2⟩:=rd_rowOf2 (by decide) H.out.clients
 have HCS:=Lib.hid hcs2.left
 have HRW:=Lib.hid hcs2.right
 clear hcs2
 obtain ⟨c6,cx,hc6,hcx,hc6l⟩:=elem_at HCS.out.out HKL.out
 have hgd : cls.getD yv.toNat (newCn []) = cx:=by simp [hcx]
 rw [hgd]
 have HCX:=Lib.hid (rd_elem HCS.out hc6 hcx)
 have hcxb:=HCB.out cx (List.mem_of_getElem? hcx)
 obtain ⟨kcalls,kbox,kgot,hk6,q1,q2,q3⟩:=rd_cn HCX.out
 subst hk6
 obtain ⟨kb,ko,hka⟩ : ∃ b o,ka = some ⟨b,o,none⟩:=by
  obtain ⟨_,_,e1,_,_,_,hf⟩:=H.out.clients.out.form (by decide)
  simp only [Value.slice.injEq,true_and] at e1
  obtain ⟨rfl,rfl⟩:=e1
  obtain ⟨b,o,_,e2,_⟩:=hf _ _ hcx
  exact ⟨b,o,e2⟩
 subst hka
 have HRG:=Lib.hid (HRW.out.imp fun w hw=>row_cells (by decide) hw HCS.out.out.sizes hc6)
 have HCXB:=Lib.hid hcxb
 obtain ⟨kl,kat,ksent,kgen,kbl,kgl⟩:=cx
 have HC1:=Lib.hid q1
 have HC2:=Lib.hid q2
 have HC3:=Lib.hid q3
 clear hgd hc6 hcx hc6l hcxb HRW HCS HCX q1 q2 q3
 simp only [] at *
 obtain ⟨ol,oat,osent,ogen,xl,gl,hCC⟩ : ∃ a b c d e f,comeCn ⟨kl,kat,ksent,kgen,kbl,kgl⟩ XB = ⟨a,b,c,d,e,f⟩:=⟨_,_,_,_,_,_,rfl⟩
 rw [hCC]
 have HCC:=Lib.hid hCC
 obtain ⟨MX,hMX⟩ : ∃ x : Mc,⟨XS,XV,true,pause,falls,(cls.set yv.toNat ⟨ol,oat,osent,ogen,xl,gl⟩)⟩ = x:=⟨_,rfl⟩
 rw [hMX]
 have HMX:=Lib.hid hMX
 clear hCC hMX
 go_enter Tryz.func24,Tryz.ntmps24
 go_wp2_with ((with_reducible refine zst (L:=[44,41,31,100]) ?_ ?_); exact rfl)
 unfold Hid
 refine wpList_boxB rfl 44 (.tmp 0) rfl #[.slice ca sc.length cc,.slice ua su.length uc,.slice aa sa.length ac,.slice pa sp.length pc,I gen,.slice xa bl.length xc,.bool busy,I nc,I nt,I nk,I na,I no,I nn,.slice la pl.length lc,I se,I sn,.bool true,I pause,I falls,.slice (some ⟨kb,ko,none⟩) cls.length kc] rfl (fun b0 w1_ M1=>?_)
 have B_b0:=zmb M1
 replace H:=Lib.hid (H.out.ext M1.out.ext)
 replace HC1:=zme M1 HC1
 replace HC2:=zme M1 HC2
 replace HC3:=zme M1 HC3
 replace HRG:=zme M1 HRG
 replace EW:=zet EW M1
 go_wp2_with ((with_reducible refine zst (L:=[44,41,31,100]) ?_ ?_); exact rfl)
 unfold Hid
 refine wpList_boxB rfl 72 (.tmp 1) rfl #[I 2,I n] rfl (fun b1 w2_ M2=>?_)
 have D_b0_b1:=zld B_b0 M2
 replace B_b0:=zmo M2 B_b0
 have B_b1:=zmb M2
 replace H:=Lib.hid (H.out.ext M2.out.ext)
 replace HC1:=zme M2 HC1
 replace HC2:=zme M2 HC2
 replace HC3:=zme M2 HC3
 replace HRG:=zme M2 HRG
 replace EW:=zet EW M2
 go_wp2_with ((with_reducible refine zst (L:=[44,41,31,100]) ?_ ?_); exact rfl)
 unfold Hid
 refine wpList_allocB rfl 44 #[.slice none 0 0,.slice none 0 0,.slice none 0 0,.slice none 0 0,I 0,.slice none 0 0,.bool false,I 0,I 0,I 0,I 0,I 0,I 0,.slice none 0 0,I 0,I 0,.bool false,I 0,I 0,.slice none 0 0] (by kernel_rfl) (fun b2 w3_ M3=>?_)
 have D_b0_b2:=zld B_b0 M3
 have D_b1_b2:=zld B_b1 M3
 replace B_b0:=zmo M3 B_b0
 replace B_b1:=zmo M3 B_b1
 have B_b2:=zmb M3
 replace H:=Lib.hid (H.out.ext M3.out.ext)
 replace HC1:=zme M3 HC1
 replace HC2:=zme M3 HC2
 replace HC3:=zme M3 HC3
 replace HRG:=zme M3 HRG
 replace EW:=zet EW M3
 have A_b0 : Hid (b0 = w.heap.size + 0):=by unfold Hid; have q0:=M1.out.at_; have r0:=M1.out.size; omega
 have N_b0:=znb HK A_b0 (by decide)
 have O_b0:=zob A_b0
 have A_b1 : Hid (b1 = w.heap.size + 1):=by unfold Hid; have q0:=M1.out.at_; have r0:=M1.out.size; have q1:=M2.out.at_; have r1:=M2.out.size; omega
 have N_b1:=znb HK A_b1 (by decide)
 have O_b1:=zob A_b1
 have A_b2 : Hid (b2 = w.heap.size + 2):=by unfold Hid; have q0:=M1.out.at_; have r0:=M1.out.size; have q1:=M2.out.at_; have r1:=M2.out.size; have q2:=M3.out.at_; have r2:=M3.out.size; omega
 have N_b2:=znb HK A_b2 (by decide)
 have O_b2:=zob A_b2
 have k0:=cell_of (i:=0) B_b1.out rfl
 have c16:=cell_of (i:=16) B_b0.out rfl
 go_wp2_with ((with_reducible refine zst (L:=[44,41,31,100]) ?_ ?_); exact rfl)
 unfold Hid
 clear k0 c16
 refine wpList_loadP rfl 31 (.tmp 82) rfl b0 0 rfl B_b0 [.slice ca sc.length cc,.slice ua su.length uc,.slice aa sa.length ac,.slice pa sp.length pc] rfl Tryz.underlying31 (by kernel_rfl) (fun v83 H_v83=>?_)
 go_wp2_with ((with_reducible refine zst (L:=[44,41,31,100]) ?_ ?_); exact rfl)
 unfold Hid
 refine wpList_loadP rfl 41 (.tmp 84) rfl b0 4 rfl B_b0 [I gen,.slice xa bl.length xc,.bool busy,I nc,I nt,I nk,I na,I no,I nn,.slice la pl.length lc,I se,I sn] rfl Tryz.underlying41 (by kernel_rfl) (fun v85 H_v85=>?_)
 go_wp2_with fail
 rw [show _ = Value.agg #[.slice ca sc.length cc,.slice ua su.length uc,.slice aa sa.length ac,.slice pa sp.length pc] from H_v83.out,show _ = Value.agg #[I gen,.slice xa bl.length xc,.bool busy,I nc,I nt,I nk,I na,I no,I nn,.slice la pl.length lc,I se,I sn] from H_v85.out]
 refine (refServe_keeps ⟨sc,su,sa,sp⟩ ⟨gen,bl,busy,⟨nc,nt,⟨nk,na,no,nn⟩⟩,pl,⟨se,sn⟩⟩ _ _ _ _ _ _ w3_ B (st_rd (s:=⟨sc,su,sa,sp⟩) H.out.cells H.out.undo H.out.answers H.out.past) H.out.box H.out.plan HQ.out.1 HQ.out.2.1 HQ.out.2.2.1 HQ.out.2.2.2.1 HQ.out.2.2.2.2).to fun r w9 e9 hr=>?_
 rw [HSV.out] at hr
 simp only [] at hr
 obtain ⟨cs,ds,bv,rfl,hcs,hds,hbv⟩:=rd_tup4 hr
 obtain ⟨c',u',a',p',rfl,r1,r2,r3,r4⟩:=rd_st hcs
 obtain ⟨box',plan',rfl,r5,r6⟩:=rd_sv hds
 obtain ⟨ca',cc',rfl⟩:=row_slice r1.out
 obtain ⟨ua',uc',rfl⟩:=row_slice r2.out
 obtain ⟨aa',ac',rfl⟩:=rowOf_slice r3.out
 obtain ⟨pa',pc',rfl⟩:=rowOf_slice r4.out
 obtain ⟨xa',xc',rfl⟩:=rowOf_slice r5.out
 obtain ⟨la',lc',rfl⟩:=row_slice r6.out
 obtain ⟨ya,yc,rfl⟩:=row_slice hbv.out
 have hsz : w.heap.size + 3 ≤ w3_.heap.size:=by have q:=(Array.getElem?_eq_some_iff.1 B_b2.out).1; have q2:=A_b2.out; omega
 have hin : ∀ k,k < w9.heap.size → (B k ∨ w3_.heap.size ≤ k) → B k:=fun k _ h=>by
  rcases h with h | h
  ·exact h
  ·exact HK.out.2.1 k (by omega)
 have R1:=Lib.hid (r1.widen hin)
 have R2:=Lib.hid (r2.widen hin)
 have R3:=Lib.hid (r3.widen hin)
 have R4:=Lib.hid (r4.widen hin)
 have R5:=Lib.hid (r5.widen hin)
 have R6:=Lib.hid (r6.widen hin)
 have RY:=Lib.hid (hbv.widen hin)
 clear hr hcs hds hbv r1 r2 r3 r4 r5 r6 hin hsz
 replace B_b0:=zbx B_b0 e9
 replace B_b1:=zbx B_b1 e9
 replace B_b2:=zbx B_b2 e9
 replace H:=Lib.hid (H.out.ext e9)
 replace HC1:=zrx HC1 e9
 replace HC2:=zrx HC2 e9
 replace HC3:=zrx HC3 e9
 replace HRG:=zrx HRG e9
 replace EW:=Lib.hid (EW.out.trans e9)
 go_wp2_with ((with_reducible refine zst (L:=[44,41,31,100]) ?_ ?_); exact rfl)
 unfold Hid
 refine wpList_allocB rfl 31 #[.slice none 0 0,.slice none 0 0,.slice none 0 0,.slice none 0 0] (by kernel_rfl) (fun b3 w4_ M4=>?_)
 have D_b0_b3:=zld B_b0 M4
 have D_b1_b3:=zld B_b1 M4
 have D_b2_b3:=zld B_b2 M4
 obtain ⟨B1,HB1⟩ : ∃ X : Nat → Prop,Hid (∀ k,X k ↔ (B k ∧ k ≠ b3)):=⟨_,fun _=>Iff.rfl⟩
 replace H:=Lib.hid (H.out.widen (B:=B1) (fun k hk h=>(HB1.out k).2 ⟨h,by have q2:=M4.out.at_; omega⟩))
 replace HC1:=zmd HB1 M4 HC1
 replace HC2:=zmd HB1 M4 HC2
 replace HC3:=zmd HB1 M4 HC3
 replace HRG:=zmd HB1 M4 HRG
 replace R1:=zmd HB1 M4 R1
 replace R2:=zmd HB1 M4 R2
 replace R3:=zmd HB1 M4 R3
 replace R4:=zmd HB1 M4 R4
 replace R5:=zmd HB1 M4 R5
 replace R6:=zmd HB1 M4 R6
 replace RY:=zmd HB1 M4 RY
 replace N_b0:=znw HB1 N_b0
 replace N_b1:=znw HB1 N_b1
 replace N_b2:=znw HB1 N_b2
 have N_b3 : Hid (¬ B1 b3):=fun h=>((HB1.out _).1 h).2 rfl
 have I_B1 : Hid (∀ k,B1 k → B k):=fun k h=>((HB1.out k).1 h).1
 have O_b3 : Hid (w.heap.size ≤ b3):=by unfold Hid; have q2:=M4.out.at_; have q3:=EW.out.size; omega
 replace B_b0:=zmo M4 B_b0
 replace B_b1:=zmo M4 B_b1
 replace B_b2:=zmo M4 B_b2
 have B_b3:=zmb M4
 replace H:=Lib.hid (H.out.ext M4.out.ext)
 replace HC1:=zme M4 HC1
 replace HC2:=zme M4 HC2
 replace HC3:=zme M4 HC3
 replace HRG:=zme M4 HRG
 replace R1:=zme M4 R1
 replace R2:=zme M4 R2
 replace R3:=zme M4 R3
 replace R4:=zme M4 R4
 replace R5:=zme M4 R5
 replace R6:=zme M4 R6
 replace RY:=zme M4 RY
 replace EW:=zet EW M4
 go_wp2_with ((with_reducible refine zst (L:=[44,41,31,100]) ?_ ?_); exact rfl)
 unfold Hid
 refine wpList_allocB rfl 41 #[I 0,.slice none 0 0,.bool false,I 0,I 0,I 0,I 0,I 0,I 0,.slice none 0 0,I 0,I 0] (by kernel_rfl) (fun b4 w5_ M5=>?_)
 have D_b0_b4:=zld B_b0 M5
 have D_b1_b4:=zld B_b1 M5
 have D_b2_b4:=zld B_b2 M5
 have D_b3_b4:=zld B_b3 M5
 obtain ⟨B11,HB11⟩ : ∃ X : Nat → Prop,Hid (∀ k,X k ↔ (B1 k ∧ k ≠ b4)):=⟨_,fun _=>Iff.rfl⟩
 replace H:=Lib.hid (H.out.widen (B:=B11) (fun k hk h=>(HB11.out k).2 ⟨h,by have q2:=M5.out.at_; omega⟩))
 replace HC1:=zmd HB11 M5 HC1
 replace HC2:=zmd HB11 M5 HC2
 replace HC3:=zmd HB11 M5 HC3
 replace HRG:=zmd HB11 M5 HRG
 replace R1:=zmd HB11 M5 R1
 replace R2:=zmd HB11 M5 R2
 replace R3:=zmd HB11 M5 R3
 replace R4:=zmd HB11 M5 R4
 replace R5:=zmd HB11 M5 R5
 replace R6:=zmd HB11 M5 R6
 replace RY:=zmd HB11 M5 RY
 replace N_b0:=znw HB11 N_b0
 replace N_b1:=znw HB11 N_b1
 replace N_b2:=znw HB11 N_b2
 replace N_b3:=znw HB11 N_b3
 have N_b4 : Hid (¬ B11 b4):=fun h=>((HB11.out _).1 h).2 rfl
 have I_B11 : Hid (∀ k,B11 k → B1 k):=fun k h=>((HB11.out k).1 h).1
 have O_b4 : Hid (w.heap.size ≤ b4):=by unfold Hid; have q2:=M5.out.at_; have q3:=EW.out.size; omega
 replace B_b0:=zmo M5 B_b0
 replace B_b1:=zmo M5 B_b1
 replace B_b2:=zmo M5 B_b2
 replace B_b3:=zmo M5 B_b3
 have B_b4:=zmb M5
 replace H:=Lib.hid (H.out.ext M5.out.ext)
 replace HC1:=zme M5 HC1
 replace HC2:=zme M5 HC2
 replace HC3:=zme M5 HC3
 replace HRG:=zme M5 HRG
 replace R1:=zme M5 R1
 replace R2:=zme M5 R2
 replace R3:=zme M5 R3
 replace R4:=zme M5 R4
 replace R5:=zme M5 R5
 replace R6:=zme M5 R6
 replace RY:=zme M5 RY
 replace EW:=zet EW M5
 go_wp2_with ((with_reducible refine zst (L:=[44,41,31,100]) ?_ ?_); exact rfl)
 unfold Hid
 refine wpList_storeW rfl 31 (.tmp 11) (.tmp 87) rfl b3 rfl [.slice ca' XS.cells.length cc',.slice ua' XS.undo.length uc',.slice aa' XS.answers.length ac',.slice pa' XS.past.length pc'] (rfl) B_b3 rfl (by kernel_rfl) rfl (fun w6_ M6=>?_)
 replace B_b0:=zwl M6 B_b0 D_b0_b3
 replace B_b1:=zwl M6 B_b1 D_b1_b3
 replace B_b2:=zwl M6 B_b2 D_b2_b3
 replace B_b3:=zwb M6
 replace B_b4:=zwg M6 B_b4 D_b3_b4
 replace H:=Lib.hid (M6.out.rdM H.out N_b3.out)
 replace HC1:=zwr M6 HC1 N_b3
 replace HC2:=zwr M6 HC2 N_b3
 replace HC3:=zwr M6 HC3 N_b3
 replace HRG:=zwr M6 HRG N_b3
 replace R1:=zwr M6 R1 N_b3
 replace R2:=zwr M6 R2 N_b3
 replace R3:=zwr M6 R3 N_b3
 replace R4:=zwr M6 R4 N_b3
 replace R5:=zwr M6 R5 N_b3
 replace R6:=zwr M6 R6 N_b3
 replace RY:=zwr M6 RY N_b3
 replace EW:=zwe M6 EW O_b3
 go_wp2_with ((with_reducible refine zst (L:=[44,41,31,100]) ?_ ?_); exact rfl)
 unfold Hid
 refine wpList_storeW rfl 41 (.tmp 12) (.tmp 88) rfl b4 rfl [I XV.gen,.slice xa' XV.box.length xc',.bool XV.busy,I XV.now.client,I XV.now.token,I XV.now.call.kind,I XV.now.call.name,I XV.now.call.other,I XV.now.call.n,.slice la' XV.plan.length lc',I XV.says.err,I XV.says.n] (rfl) B_b4 rfl (by kernel_rfl) rfl (fun w7_ M7=>?_)
 replace B_b0:=zwl M7 B_b0 D_b0_b4
 replace B_b1:=zwl M7 B_b1 D_b1_b4
 replace B_b2:=zwl M7 B_b2 D_b2_b4
 replace B_b3:=zwl M7 B_b3 D_b3_b4
 replace B_b4:=zwb M7
 replace H:=Lib.hid (M7.out.rdM H.out N_b4.out)
 replace HC1:=zwr M7 HC1 N_b4
 replace HC2:=zwr M7 HC2 N_b4
 replace HC3:=zwr M7 HC3 N_b4
 replace HRG:=zwr M7 HRG N_b4
 replace R1:=zwr M7 R1 N_b4
 replace R2:=zwr M7 R2 N_b4
 replace R3:=zwr M7 R3 N_b4
 replace R4:=zwr M7 R4 N_b4
 replace R5:=zwr M7 R5 N_b4
 replace R6:=zwr M7 R6 N_b4
 replace RY:=zwr M7 RY N_b4
 replace EW:=zwe M7 EW O_b4
 go_wp2_with fail
 refine held_drew (S:=fun w'=>w'.heap[b3]? = some (.cells #[.slice ca' XS.cells.length cc',.slice ua' XS.undo.length uc',.slice aa' XS.answers.length ac',.slice pa' XS.past.length pc'] 31 (0,0)) ∧ w'.heap[b4]? = some (.cells #[I XV.gen,.slice xa' XV.box.length xc',.bool XV.busy,I XV.now.client,I XV.now.token,I XV.now.call.kind,I XV.now.call.name,I XV.now.call.other,I XV.now.call.n,.slice la' XV.plan.length lc',I XV.says.err,I XV.says.n] 41 (0,0))) (by kernel_rfl) (fun wd ed _=>?_)
 replace B_b0:=zbx B_b0 ed
 replace B_b1:=zbx B_b1 ed
 replace B_b2:=zbx B_b2 ed
 replace B_b3:=zbx B_b3 ed
 replace B_b4:=zbx B_b4 ed
 replace H:=Lib.hid (H.out.ext ed)
 replace HC1:=zrx HC1 ed
 replace HC2:=zrx HC2 ed
 replace HC3:=zrx HC3 ed
 replace HRG:=zrx HRG ed
 replace R1:=zrx R1 ed
 replace R2:=zrx R2 ed
 replace R3:=zrx R3 ed
 replace R4:=zrx R4 ed
 replace R5:=zrx R5 ed
 replace R6:=zrx R6 ed
 replace RY:=zrx RY ed
 replace EW:=Lib.hid (EW.out.trans ed)
 have HSS : Hid (wd.heap[b3]? = some (.cells #[.slice ca' XS.cells.length cc',.slice ua' XS.undo.length uc',.slice aa' XS.answers.length ac',.slice pa' XS.past.length pc'] 31 (0,0)) ∧ wd.heap[b4]? = some (.cells #[I XV.gen,.slice xa' XV.box.length xc',.bool XV.busy,I XV.now.client,I XV.now.token,I XV.now.call.kind,I XV.now.call.name,I XV.now.call.other,I XV.now.call.n,.slice la' XV.plan.length lc',I XV.says.err,I XV.says.n] 41 (0,0))):=⟨B_b3.out,B_b4.out⟩
 refine held_loadW 0 rfl (by kernel_rfl) (by kernel_rfl) (by kernel_rfl) (fun _ _ _ _ h=>h) rfl 31 (.tmp 11) rfl b3 rfl (fun w' hS=>hS.1) Tryz.underlying31 (by kernel_rfl) HSS ?_
 refine held_norm (fun K hK=>?_); go_simp; refine hK _ ?_; clear hK K
 refine held_loadW 1 rfl (by kernel_rfl) (by kernel_rfl) (by kernel_rfl) (fun _ _ _ _ h=>h) rfl 41 (.tmp 12) rfl b4 rfl (fun w' hS=>hS.2) Tryz.underlying41 (by kernel_rfl) HSS ?_
 refine held_norm (fun K hK=>?_); go_simp; refine hK _ ?_; clear hK K
 refine held_pure 2 rfl (by kernel_rfl) (by kernel_rfl) (by kernel_rfl) (fun _ _ _ _ h=>h) rfl HSS.out (fun K hK=>?_); go_simp; refine hK _ ?_; clear hK K
 refine held_store 3 (by kernel_rfl) rfl rfl 31 (.tmp 97) (.tmp 95) rfl b0 0 rfl [.slice ca' XS.cells.length cc',.slice ua' XS.undo.length uc',.slice aa' XS.answers.length ac',.slice pa' XS.past.length pc'] (rfl) B_b0.out (Nat.le_of_ble_eq_true rfl) (by kernel_rfl) (ones_of rfl) #[.slice ca' XS.cells.length cc',.slice ua' XS.undo.length uc',.slice aa' XS.answers.length ac',.slice pa' XS.past.length pc',I gen,.slice xa bl.length xc,.bool busy,I nc,I nt,I nk,I na,I no,I nn,.slice la pl.length lc,I se,I sn,.bool true,I pause,I falls,.slice (some ⟨kb,ko,none⟩) cls.length kc] ((splN_eq _ _ _ (Nat.le_of_ble_eq_true rfl)).trans rfl) (fun w8_ M8=>⟨?_,?_⟩)
 ·exact ⟨M8.out.old B_b3.out (Nat.ne_of_gt D_b0_b3.out),M8.out.old B_b4.out (Nat.ne_of_gt D_b0_b4.out)⟩
 replace B_b0:=zwb M8
 replace B_b1:=zwg M8 B_b1 D_b0_b1
 replace B_b2:=zwg M8 B_b2 D_b0_b2
 replace B_b3:=zwg M8 B_b3 D_b0_b3
 replace B_b4:=zwg M8 B_b4 D_b0_b4
 replace H:=Lib.hid (M8.out.rdM H.out N_b0.out)
 replace HC1:=zwr M8 HC1 N_b0
 replace HC2:=zwr M8 HC2 N_b0
 replace HC3:=zwr M8 HC3 N_b0
 replace HRG:=zwr M8 HRG N_b0
 replace R1:=zwr M8 R1 N_b0
 replace R2:=zwr M8 R2 N_b0
 replace R3:=zwr M8 R3 N_b0
 replace R4:=zwr M8 R4 N_b0
 replace R5:=zwr M8 R5 N_b0
 replace R6:=zwr M8 R6 N_b0
 replace RY:=zwr M8 RY N_b0
 replace EW:=zwe M8 EW O_b0
 clear HSS
 have HSS : Hid (w8_.heap[b3]? = some (.cells #[.slice ca' XS.cells.length cc',.slice ua' XS.undo.length uc',.slice aa' XS.answers.length ac',.slice pa' XS.past.length pc'] 31 (0,0)) ∧ w8_.heap[b4]? = some (.cells #[I XV.gen,.slice xa' XV.box.length xc',.bool XV.busy,I XV.now.client,I XV.now.token,I XV.now.call.kind,I XV.now.call.name,I XV.now.call.other,I XV.now.call.n,.slice la' XV.plan.length lc',I XV.says.err,I XV.says.n] 41 (0,0))):=⟨B_b3.out,B_b4.out⟩
 refine held_norm (fun K hK=>?_); go_simp; refine hK _ ?_; clear hK K
 refine held_pure 4 rfl (by kernel_rfl) (by kernel_rfl) (by kernel_rfl) (fun _ _ _ _ h=>h) rfl HSS.out (fun K hK=>?_); go_simp; refine hK _ ?_; clear hK K
 refine held_store 5 (by kernel_rfl) rfl rfl 41 (.tmp 98) (.tmp 96) rfl b0 4 rfl [I XV.gen,.slice xa' XV.box.length xc',.bool XV.busy,I XV.now.client,I XV.now.token,I XV.now.call.kind,I XV.now.call.name,I XV.now.call.other,I XV.now.call.n,.slice la' XV.plan.length lc',I XV.says.err,I XV.says.n] (rfl) B_b0.out (Nat.le_of_ble_eq_true rfl) (by kernel_rfl) (ones_of rfl) #[.slice ca' XS.cells.length cc',.slice ua' XS.undo.length uc',.slice aa' XS.answers.length ac',.slice pa' XS.past.length pc',I XV.gen,.slice xa' XV.box.length xc',.bool XV.busy,I XV.now.client,I XV.now.token,I XV.now.call.kind,I XV.now.call.name,I XV.now.call.other,I XV.now.call.n,.slice la' XV.plan.length lc',I XV.says.err,I XV.says.n,.bool true,I pause,I falls,.slice (some ⟨kb,ko,none⟩) cls.length kc] ((splN_eq _ _ _ (Nat.le_of_ble_eq_true rfl)).trans rfl) (fun w9_ M9=>⟨?_,?_⟩)
 ·exact ⟨M9.out.old B_b3.out (Nat.ne_of_gt D_b0_b3.out),M9.out.old B_b4.out (Nat.ne_of_gt D_b0_b4.out)⟩
 replace B_b0:=zwb M9
 replace B_b1:=zwg M9 B_b1 D_b0_b1
 replace B_b2:=zwg M9 B_b2 D_b0_b2
 replace B_b3:=zwg M9 B_b3 D_b0_b3
 replace B_b4:=zwg M9 B_b4 D_b0_b4
 replace H:=Lib.hid (M9.out.rdM H.out N_b0.out)
 replace HC1:=zwr M9 HC1 N_b0
 replace HC2:=zwr M9 HC2 N_b0
 replace HC3:=zwr M9 HC3 N_b0
 replace HRG:=zwr M9 HRG N_b0
 replace R1:=zwr M9 R1 N_b0
 replace R2:=zwr M9 R2 N_b0
 replace R3:=zwr M9 R3 N_b0
 replace R4:=zwr M9 R4 N_b0
 replace R5:=zwr M9 R5 N_b0
 replace R6:=zwr M9 R6 N_b0
 replace RY:=zwr M9 RY N_b0
 replace EW:=zwe M9 EW O_b0
 clear HSS
 have HSS : Hid (w9_.heap[b3]? = some (.cells #[.slice ca' XS.cells.length cc',.slice ua' XS.undo.length uc',.slice aa' XS.answers.length ac',.slice pa' XS.past.length pc'] 31 (0,0)) ∧ w9_.heap[b4]? = some (.cells #[I XV.gen,.slice xa' XV.box.length xc',.bool XV.busy,I XV.now.client,I XV.now.token,I XV.now.call.kind,I XV.now.call.name,I XV.now.call.other,I XV.now.call.n,.slice la' XV.plan.length lc',I XV.says.err,I XV.says.n] 41 (0,0))):=⟨B_b3.out,B_b4.out⟩
 refine held_norm (fun K hK=>?_); go_simp; refine hK _ ?_; clear hK K
 refine wpAnyH_done (by kernel_rfl) ?_ _
 clear HSS
 obtain ⟨yo,ycap,ey,-,-,hyc⟩:=RY.out.out.form
 simp only [Value.slice.injEq,true_and] at ey
 obtain ⟨rfl,rfl⟩:=ey
 obtain ⟨yb,yf,rfl,hy1⟩:=hyc 1 (by rw [HLEN.out]; decide)
 rw [HYV.out] at hy1
 clear hyc
 have hbw:=wrap_byte yv
 have hl1 : (1 : Int) < (XB.length : Int):=by rw [HLEN.out]; decide
 have hl0 : (0 : Int) < (XB.length : Int):=by rw [HLEN.out]; decide
 have c19:=cell_of (i:=19) B_b0.out rfl
 go_wp2_with fail
 clear c19 hy1 hbw hl1 hl0
 have hx0:=B_b0.out
 have x19:=cell_of (i:=19) hx0 rfl
 refine wp_region_mono_tail 10 [none,none,none,none,none,none,none,none,some (.inr fun r wx=>Rd (fun k=>B11 k ∨ w9_.heap.size ≤ k) (Agg elCn ⟨ol,oat,osent,ogen,xl,gl⟩ r) wx),some (.inr fun r wx=>Rd (fun k=>B11 k ∨ w9_.heap.size ≤ k) (Agg elMc MX r) wx)] (by kernel_rfl) (by kernel_rfl) ?_ ?_
 ·exact ⟨trivial,trivial,trivial,trivial,trivial,trivial,trivial,trivial,fun _=>Rd.mono _ _,fun _=>Rd.mono _ _,trivial⟩
 refine wpM_q (.agg #[.slice ca' XS.cells.length cc',.slice ua' XS.undo.length uc',.slice aa' XS.answers.length ac',.slice pa' XS.past.length pc',I XV.gen,.slice xa' XV.box.length xc',.bool XV.busy,I XV.now.client,I XV.now.token,I XV.now.call.kind,I XV.now.call.name,I XV.now.call.other,I XV.now.call.n,.slice la' XV.plan.length lc',I XV.says.err,I XV.says.n,.bool true,I pause,I falls,.slice (some ⟨kb,ko,none⟩) cls.length kc]) rfl (fun w' hw'=>run_loadM 44 (.tmp 2) rfl b0 0 rfl (blk_ext hx0 hw') [.slice ca' XS.cells.length cc',.slice ua' XS.undo.length uc',.slice aa' XS.answers.length ac',.slice pa' XS.past.length pc',I XV.gen,.slice xa' XV.box.length xc',.bool XV.busy,I XV.now.client,I XV.now.token,I XV.now.call.kind,I XV.now.call.name,I XV.now.call.other,I XV.now.call.n,.slice la' XV.plan.length lc',I XV.says.err,I XV.says.n,.bool true,I pause,I falls,.slice (some ⟨kb,ko,none⟩) cls.length kc] rfl Tryz.underlying44 (by kernel_rfl)) ?_
 refine wpM_norm (fun K hK=>?_); go_simp; refine hK _ ?_; clear hK K
 iterate 2 (refine wpM_p (fun K hK=>?_); go_simp; first | refine hK _ ?_ | refine ⟨(fun h=>by cases h),hK _ ?_⟩; clear hK K)
 refine wpM_q (.slice (some ⟨kb,ko,none⟩) cls.length kc) rfl (fun w' hw'=>by have q0:=hw'.cell x19; go_simp) ?_
 refine wpM_norm (fun K hK=>?_); go_simp; refine hK _ ?_; clear hK K
 iterate 2 (refine wpM_p (fun K hK=>?_); go_simp; first | refine hK _ ?_ | refine ⟨(fun h=>by cases h),hK _ ?_⟩; clear hK K)
 refine wpM_q (.agg #[kcalls,I kat,.bool ksent,I kgen,kbox,kgot]) rfl (fun w' hw'=>run_loadR 100 (.tmp 116) rfl kb (ko + yv.toNat * 6) rfl [kcalls,I kat,.bool ksent,I kgen,kbox,kgot] (HRG.out.ext hw').out Tryz.underlying100 (by kernel_rfl)) ?_
 refine wpM_norm (fun K hK=>?_); go_simp; refine hK _ ?_; clear hK K
 iterate 1 (refine wpM_p (fun K hK=>?_); go_simp; first | refine hK _ ?_ | refine ⟨(fun h=>by cases h),hK _ ?_⟩; clear hK K)
 refine wpM_l _ rfl (fun w' hw' hk=>?_) (fun v119=>?_)
 ·have hle:=hw'.size
  have hkk:=refClientCome_keeps kl kat ksent kgen kbl kgl kcalls kbox kgot _ XB w' B11 (HC1.out.ext hw') (HC2.out.ext hw') (HC3.out.ext hw') (RY.out.ext hw') HCXB.out
  rw [HCC.out] at hkk
  clear hk
  unfold makes
  go_simp
  exact ⟨Ext.refl _,Calls.mono hkk fun e w'' ⟨r,he,hx,ht⟩=>⟨r,he,hx,ht.widen (fun k _ h=>h.imp_right (Nat.le_trans hle))⟩⟩
 refine wpM_norm (fun K hK=>?_); go_simp; refine hK _ ?_; clear hK K
 refine wpM_l _ rfl (fun w' hw' hk=>?_) (fun v120=>?_)
 ·have h119 : Rd (fun k=>B11 k ∨ w9_.heap.size ≤ k) (Agg elCn ⟨ol,oat,osent,ogen,xl,gl⟩ v119) w':=hk 119 (by decide)
  clear hk
  obtain ⟨cs,rfl,hcs⟩:=rd_agg h119
  obtain ⟨ocalls,obox,ogot,rfl,o1,o2,o3⟩:=rd_cn hcs
  have hle:=hw'.size
  have hwd : ∀ k,k < w'.heap.size → B11 k → (B11 k ∨ w9_.heap.size ≤ k):=fun k _ h=>.inl h
  have hkk:=refWith_keeps ⟨XS,XV,true,pause,falls,cls⟩ _ _ _ _ _ _ _ yv.toNat ol oat osent ogen xl gl ocalls obox ogot w' (fun k=>B11 k ∨ w9_.heap.size ≤ k) ⟨(R1.out.ext hw').widen hwd,(R2.out.ext hw').widen hwd,(R3.out.ext hw').widen hwd,(R4.out.ext hw').widen hwd,(R5.out.ext hw').widen hwd,(R6.out.ext hw').widen hwd,(H.out.clients.ext hw').widen hwd⟩ o1 o2 o3 HKL.out HL.out
  simp only [] at hkk
  rw [HMX.out] at hkk
  unfold makes
  go_simp
  exact ⟨Ext.refl _,Calls.mono hkk fun e w'' ⟨r,he,hx,ht⟩=>⟨r,he,hx,ht.widen (fun k _ h=>by
   rcases h with h | h
   ·exact h
   ·exact .inr (Nat.le_trans hle h))⟩⟩
 refine wpM_norm (fun K hK=>?_); go_simp; refine hK _ ?_; clear hK K
 refine wpM_nil ?_
 intro w9b e9b hX
 have hr : Rd (fun k=>B11 k ∨ w9_.heap.size ≤ k) (Agg elMc MX v120) w9b:=hX 120
 clear hX hx0 x19
 obtain ⟨cs,rfl,hcs⟩:=rd_agg hr
 obtain ⟨c2,u2,a2,p2,box2,plan2,cl2,rfl,hm⟩:=rd_mc hcs
 obtain ⟨ca',cc',ua',uc',aa',ac',pa',pc',xa',xc',la',lc',ka',kc',rfl,rfl,rfl,rfl,rfl,rfl,rfl⟩:=hm.slices
 have hsz : w.heap.size + 3 ≤ w9_.heap.size:=by have q:=(Array.getElem?_eq_some_iff.1 B_b2.out).1; have q2:=A_b2.out; omega
 have hz3 : b3 < w9_.heap.size:=(Array.getElem?_eq_some_iff.1 B_b3.out).1
 have hz4 : b4 < w9_.heap.size:=(Array.getElem?_eq_some_iff.1 B_b4.out).1
 have HM:=Lib.hid (hm.widen (B:=B11) (fun k _ h=>by
  rcases h with h | h
  ·exact h
  ·exact (HB11.out k).2 ⟨(HB1.out k).2 ⟨HK.out.2.1 k (by omega),by omega⟩,by omega⟩))
 clear hr hcs hm hsz hz3 hz4
 replace B_b0:=zbx B_b0 e9b
 replace B_b1:=zbx B_b1 e9b
 replace B_b2:=zbx B_b2 e9b
 replace B_b3:=zbx B_b3 e9b
 replace B_b4:=zbx B_b4 e9b
 replace H:=Lib.hid (H.out.ext e9b)
 replace HC1:=zrx HC1 e9b
 replace HC2:=zrx HC2 e9b
 replace HC3:=zrx HC3 e9b
 replace HRG:=zrx HRG e9b
 replace R1:=zrx R1 e9b
 replace R2:=zrx R2 e9b
 replace R3:=zrx R3 e9b
 replace R4:=zrx R4 e9b
 replace R5:=zrx R5 e9b
 replace R6:=zrx R6 e9b
 replace RY:=zrx RY e9b
 replace EW:=Lib.hid (EW.out.trans e9b)
 clear HC1 HC2 HC3 HRG R1 R2 R3 R4 R5 R6 RY H
 show wpList _ _ _ [_] _ _
 go_wp2_with ((with_reducible refine zst (L:=[44,41,31,100]) ?_ ?_); exact rfl)
 unfold Hid
 refine wpList_storeW rfl 44 (.tmp 2) (.tmp 120) rfl b0 rfl [.slice ca' (MX).store.cells.length cc',.slice ua' (MX).store.undo.length uc',.slice aa' (MX).store.answers.length ac',.slice pa' (MX).store.past.length pc',I (MX).server.gen,.slice xa' (MX).server.box.length xc',.bool (MX).server.busy,I (MX).server.now.client,I (MX).server.now.token,I (MX).server.now.call.kind,I (MX).server.now.call.name,I (MX).server.now.call.other,I (MX).server.now.call.n,.slice la' (MX).server.plan.length lc',I (MX).server.says.err,I (MX).server.says.n,.bool (MX).up,I (MX).pause,I (MX).falls,.slice ka' (MX).clients.length kc'] (rfl) B_b0 rfl (by kernel_rfl) rfl (fun w10_ M10=>?_)
 replace B_b0:=zwb M10
 replace B_b1:=zwg M10 B_b1 D_b0_b1
 replace B_b2:=zwg M10 B_b2 D_b0_b2
 replace B_b3:=zwg M10 B_b3 D_b0_b3
 replace B_b4:=zwg M10 B_b4 D_b0_b4
 replace HM:=Lib.hid (M10.out.rdM HM.out N_b0.out)
 replace EW:=zwe M10 EW O_b0
 go_wp2_with ((with_reducible refine zst (L:=[44,41,31,100]) ?_ ?_); exact rfl)
 unfold Hid
 refine wpList_loadW rfl 44 (.tmp 2) rfl b0 rfl B_b0 Tryz.underlying44 (by kernel_rfl) (fun v121 H_v121=>?_)
 go_wp2_with ((with_reducible refine zst (L:=[44,41,31,100]) ?_ ?_); exact rfl)
 unfold Hid
 refine wpList_storeW rfl 44 (.tmp 4) (.tmp 121) rfl b2 rfl _ (zcv H_v121) B_b2 rfl (by kernel_rfl) rfl (fun w11_ M11=>?_)
 replace B_b0:=zwl M11 B_b0 D_b0_b2
 replace B_b1:=zwl M11 B_b1 D_b1_b2
 replace B_b2:=zwb M11
 replace B_b3:=zwg M11 B_b3 D_b2_b3
 replace B_b4:=zwg M11 B_b4 D_b2_b4
 replace HM:=Lib.hid (M11.out.rdM HM.out N_b2.out)
 replace EW:=zwe M11 EW O_b2
 go_wp2
 have z0:=run_box (P:=Tryz.prog) 44 B_b2.out Tryz.underlying44 (by kernel_rfl)
 refine bodyPost_ret (by simp [results,Tryz.results24,asAddr,z0]; rfl) rfl ?_
 exact ⟨_,rfl,EW.out,Rd.widen (A:=B11) (tupE_rd (RdM.mc (m:=MX) HM.out)) (fun k _ h=>HK.out.2.2.2 k (I_B1.out k (I_B11.out k h)))⟩

end Go.Proofs.YtdmipnnfooleladGreat
