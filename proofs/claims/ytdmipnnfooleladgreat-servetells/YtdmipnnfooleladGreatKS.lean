/- Texts of the proof, merged: V6. -/
import Derived.Test.YtdmipnnfooleladGreatKR

namespace Go.Proofs.YtdmipnnfooleladGreat
open Go.RowKit Go.Mk
set_option maxRecDepth 100000

set_option maxHeartbeats 8000000 in
theorem ServeTells_any (v0 v1 v2 : Value) (l : List (List Cl)) (steps : List (Int × Int)) (bs : List UInt8) (w : World) (h0 : RowOf 1 elCls w v0 l) (h1 : Writes w v1 steps) (h2 : Bytes w v2 bs) (hr : bs.length * 1 ≤ 140737488355328) :
  Gives Tryz.prog 3 #[v0,v1,v2] w fun r _=>r = .bool true:=by
 refine gives_exts ?_
 have HV:=Lib.hid h0
 have HSTP:=Lib.hid h1
 have HBS:=Lib.hid (Rd.widen (B:=fun _=>True) (Rd.of (row_heap _ _ _ _) h2) (fun _ _ _=>trivial))
 replace HBS : Hid (Rd (fun _=>True) (fun w=>Bytes w v2 bs) w):=HBS
 have HR : Hid (bs.length ≤ 140737488355328):=by unfold Hid; omega
 obtain ⟨za,zc,rfl⟩:=rowOf_slice h0
 obtain ⟨ta,tc,rfl⟩:=row_slice h1
 obtain ⟨ba,bc,rfl⟩:=row_slice h2
 clear h0 h1 h2 hr
 have EW:=Lib.hid (Ext.refl w)
 go_enter Tryz.func3,Tryz.ntmps3
 go_wp2_with fail
 refine (refRight_any _ l w HV.out).mono ?_
 rintro e wr0 ⟨bR,rfl,hbR,e0⟩
 cases bR
 case false =>
  go_wp2
  go_ret
  exact ⟨rfl,e0⟩
 have HRL:=Lib.hid (hbR.1 rfl)
 clear hbR
 replace HBS:=zrx HBS e0
 replace EW:=Lib.hid (EW.out.trans e0)
 go_wp2_with fail
 refine (refPlay_keeps _ _ l steps wr0 (fun _=>True) HRL.out (Rd.widen (Rd.of (rowOf_heap heapCls _ _) (HV.out.ext monoCls' e0)) (fun _ _ _=>trivial)) (HSTP.out.ext e0)).to fun r wp ep hr=>?_
 obtain ⟨cs,es,rfl,hm,hes⟩:=rd_play hr
 obtain ⟨mk,hmk⟩ : ∃ mk,playM (newMc l) (steps.take 400) = mk:=⟨_,rfl⟩
 have hsy:=sy_play HRL.out steps
 rw [hmk] at hm hsy
 obtain ⟨c,u,a,p,box,plan,cl,rfl,hM⟩:=rd_mc hm
 obtain ⟨ca,cc,ua,uc,aa,ac,pa,pc,xa,xc,la,lc,ka,kc,rfl,rfl,rfl,rfl,rfl,rfl,rfl⟩:=hM.slices
 have H:=Lib.hid (hM.widen (B:=fun _=>True) (fun _ _ _=>trivial))
 have SY0:=Lib.hid hsy
 obtain ⟨esa,esc,rfl⟩:=row_slice hes.out
 clear hM hm hr hes hmk hsy HV HSTP
 replace HBS:=zrx HBS ep
 replace EW:=Lib.hid (EW.out.trans ep)
 clear e0 ep
 obtain ⟨B,HB0⟩ : ∃ B : Nat → Prop,Hid (∀ k,B k ↔ True):=⟨_,fun _=>Iff.rfl⟩
 replace HBS:=Lib.hid (HBS.out.widen (B:=B) fun k _ h=>(HB0.out k).2 trivial)
 replace H:=Lib.hid (H.out.widen (B:=B) fun k _ h=>(HB0.out k).2 trivial)
 go_wp2_with ((with_reducible refine zst (L:=[44,41,31,100]) ?_ ?_); exact rfl)
 unfold Hid
 refine wpList_allocB rfl 44 #[.slice none 0 0,.slice none 0 0,.slice none 0 0,.slice none 0 0,I 0,.slice none 0 0,.bool false,I 0,I 0,I 0,I 0,I 0,I 0,.slice none 0 0,I 0,I 0,.bool false,I 0,I 0,.slice none 0 0] (by kernel_rfl) (fun b7 w1_ M1=>?_)
 obtain ⟨B1,HB1⟩ : ∃ X : Nat → Prop,Hid (∀ k,X k ↔ (B k ∧ k ≠ b7)):=⟨_,fun _=>Iff.rfl⟩
 replace HBS:=zmd HB1 M1 HBS
 replace H:=Lib.hid (H.out.widen (B:=B1) (fun k hk h=>(HB1.out k).2 ⟨h,by have q2:=M1.out.at_; omega⟩))
 have N_b7 : Hid (¬ B1 b7):=fun h=>((HB1.out _).1 h).2 rfl
 have I_B1 : Hid (∀ k,B1 k → B k):=fun k h=>((HB1.out k).1 h).1
 have O_b7 : Hid (w.heap.size ≤ b7):=by unfold Hid; have q2:=M1.out.at_; have q3:=EW.out.size; omega
 have B_b7:=zmb M1
 replace HBS:=zme M1 HBS
 replace H:=Lib.hid (H.out.ext M1.out.ext)
 replace EW:=zet EW M1
 go_wp2_with ((with_reducible refine zst (L:=[44,41,31,100]) ?_ ?_); exact rfl)
 unfold Hid
 refine wpList_storeW rfl 44 (.tmp 7) (.tmp 28) rfl b7 rfl [.slice ca mk.store.cells.length cc,.slice ua mk.store.undo.length uc,.slice aa mk.store.answers.length ac,.slice pa mk.store.past.length pc,I mk.server.gen,.slice xa mk.server.box.length xc,.bool mk.server.busy,I mk.server.now.client,I mk.server.now.token,I mk.server.now.call.kind,I mk.server.now.call.name,I mk.server.now.call.other,I mk.server.now.call.n,.slice la mk.server.plan.length lc,I mk.server.says.err,I mk.server.says.n,.bool mk.up,I mk.pause,I mk.falls,.slice ka mk.clients.length kc] (rfl) B_b7 rfl (by kernel_rfl) rfl (fun w2_ M2=>?_)
 replace B_b7:=zwb M2
 replace HBS:=zwr M2 HBS N_b7
 replace H:=Lib.hid (M2.out.rdM H.out N_b7.out)
 replace EW:=zwe M2 EW O_b7
 go_wp2_with ((with_reducible refine zst (L:=[44,41,31,100]) ?_ ?_); exact rfl)
 unfold Hid
 refine wpList_loadP rfl 41 (.tmp 31) rfl b7 4 rfl B_b7 [I mk.server.gen,.slice xa mk.server.box.length xc,.bool mk.server.busy,I mk.server.now.client,I mk.server.now.token,I mk.server.now.call.kind,I mk.server.now.call.name,I mk.server.now.call.other,I mk.server.now.call.n,.slice la mk.server.plan.length lc,I mk.server.says.err,I mk.server.says.n] rfl Tryz.underlying41 (by kernel_rfl) (fun v32 H_v32=>?_)
 go_wp2_with fail
 rw [H_v32.out]
 clear H_v32
 obtain ⟨C,HC⟩ : ∃ X : Nat → Prop,Hid (∀ k,X k ↔ (B1 k ∨ w2_.heap.size ≤ k)):=⟨_,fun _=>Iff.rfl⟩
 replace HBS:=Lib.hid (HBS.out.widen (B:=C) fun k _ h=>(HC.out k).2 (.inl h))
 replace H:=Lib.hid (H.out.widen (B:=C) fun k _ h=>(HC.out k).2 (.inl h))
 replace N_b7 : Hid (¬ C b7):=zgr HC N_b7 B_b7
 obtain ⟨nv,ne,hcome⟩ : ∃ x y,comeSv mk.server bs = (x,y):=⟨_,_,rfl⟩
 have HCM:=Lib.hid hcome
 clear hcome
 refine (Come_keeps mk.server _ _ _ bs w2_ H.out.box.out H.out.plan.out HBS.out.out (small_sy SY0.out (by decide)).2 HR.out).to fun r w2 e2 hr=>?_
 rw [HCM.out] at hr
 obtain ⟨cs,rfl,hcs⟩:=rd_tupE hr
 obtain ⟨box1,plan1,rfl,r1,r2⟩:=rd_sv hcs
 obtain ⟨xa1,xc1,rfl⟩:=rowOf_slice r1.out
 obtain ⟨la1,lc1,rfl⟩:=row_slice r2.out
 have X1:=Lib.hid (hcs.widen (B:=C) fun k _ h=>(HC.out k).2 (.inr (by rcases h with h | h; exact h.elim; exact h)))
 clear hr hcs r1 r2
 replace B_b7:=zbx B_b7 e2
 replace HBS:=zrx HBS e2
 replace H:=Lib.hid (H.out.ext e2)
 replace EW:=Lib.hid (EW.out.trans e2)
 clear e2
 go_wp2_with ((with_reducible refine zst (L:=[44,41,31,100]) ?_ ?_); exact rfl)
 unfold Hid
 refine wpList_allocB rfl 41 #[I 0,.slice none 0 0,.bool false,I 0,I 0,I 0,I 0,I 0,I 0,.slice none 0 0,I 0,I 0] (by kernel_rfl) (fun b9 w3_ M3=>?_)
 have D_b7_b9:=zld B_b7 M3
 obtain ⟨C1,HC1⟩ : ∃ X : Nat → Prop,Hid (∀ k,X k ↔ (C k ∧ k ≠ b9)):=⟨_,fun _=>Iff.rfl⟩
 replace HBS:=zmd HC1 M3 HBS
 replace H:=Lib.hid (H.out.widen (B:=C1) (fun k hk h=>(HC1.out k).2 ⟨h,by have q2:=M3.out.at_; omega⟩))
 replace X1:=zmd HC1 M3 X1
 replace N_b7:=znw HC1 N_b7
 have N_b9 : Hid (¬ C1 b9):=fun h=>((HC1.out _).1 h).2 rfl
 have I_C1 : Hid (∀ k,C1 k → C k):=fun k h=>((HC1.out k).1 h).1
 have O_b9 : Hid (w.heap.size ≤ b9):=by unfold Hid; have q2:=M3.out.at_; have q3:=EW.out.size; omega
 replace B_b7:=zmo M3 B_b7
 have B_b9:=zmb M3
 replace HBS:=zme M3 HBS
 replace H:=Lib.hid (H.out.ext M3.out.ext)
 replace X1:=zme M3 X1
 replace EW:=zet EW M3
 go_wp2_with ((with_reducible refine zst (L:=[44,41,31,100]) ?_ ?_); exact rfl)
 unfold Hid
 refine wpList_storeW rfl 41 (.tmp 9) (.tmp 35) rfl b9 rfl [I nv.gen,.slice xa1 nv.box.length xc1,.bool nv.busy,I nv.now.client,I nv.now.token,I nv.now.call.kind,I nv.now.call.name,I nv.now.call.other,I nv.now.call.n,.slice la1 nv.plan.length lc1,I nv.says.err,I nv.says.n] (rfl) B_b9 rfl (by kernel_rfl) rfl (fun w4_ M4=>?_)
 replace B_b7:=zwl M4 B_b7 D_b7_b9
 replace B_b9:=zwb M4
 replace HBS:=zwr M4 HBS N_b9
 replace H:=Lib.hid (M4.out.rdM H.out N_b9.out)
 replace X1:=zwr M4 X1 N_b9
 replace EW:=zwe M4 EW O_b9
 go_wp2_with ((with_reducible refine zst (L:=[44,41,31,100]) ?_ ?_); exact rfl)
 unfold Hid
 refine wpList_loadP rfl 41 (.tmp 38) rfl b7 4 rfl B_b7 [I mk.server.gen,.slice xa mk.server.box.length xc,.bool mk.server.busy,I mk.server.now.client,I mk.server.now.token,I mk.server.now.call.kind,I mk.server.now.call.name,I mk.server.now.call.other,I mk.server.now.call.n,.slice la mk.server.plan.length lc,I mk.server.says.err,I mk.server.says.n] rfl Tryz.underlying41 (by kernel_rfl) (fun v39 H_v39=>?_)
 go_wp2_with fail
 rw [H_v39.out]
 clear H_v39
 obtain ⟨D,HD⟩ : ∃ X : Nat → Prop,Hid (∀ k,X k ↔ (C1 k ∨ w4_.heap.size ≤ k)):=⟨_,fun _=>Iff.rfl⟩
 replace HBS:=Lib.hid (HBS.out.widen (B:=D) fun k _ h=>(HD.out k).2 (.inl h))
 replace H:=Lib.hid (H.out.widen (B:=D) fun k _ h=>(HD.out k).2 (.inl h))
 replace X1:=Lib.hid (X1.out.widen (B:=D) fun k _ h=>(HD.out k).2 (.inl h))
 replace N_b7 : Hid (¬ D b7):=zgr HD N_b7 B_b7
 replace N_b9 : Hid (¬ D b9):=zgr HD N_b9 B_b9
 refine (refServerCome_keeps mk.server.gen mk.server.box mk.server.busy mk.server.now.client mk.server.now.token mk.server.now.call.kind mk.server.now.call.name mk.server.now.call.other mk.server.now.call.n mk.server.plan mk.server.says.err mk.server.says.n _ _ _ bs w4_ D H.out.box H.out.plan HBS.out (by have:=SY0.out.box; omega)).to fun r w3 e3 hr=>?_
 replace hr : Rd (fun k=>D k ∨ w4_.heap.size ≤ k) (fun w'=>TupE elSv (comeSv mk.server bs).1 (comeSv mk.server bs).2 r w') w3:=hr
 rw [HCM.out] at hr
 obtain ⟨cs,rfl,hcs⟩:=rd_tupE hr
 obtain ⟨box2,plan2,rfl,r1,r2⟩:=rd_sv hcs
 obtain ⟨xa2,xc2,rfl⟩:=rowOf_slice r1.out
 obtain ⟨la2,lc2,rfl⟩:=row_slice r2.out
 have X2:=Lib.hid (hcs.widen (B:=D) fun k _ h=>(HD.out k).2 (by rcases h with h | h; exact (HD.out k).1 h; exact .inr h))
 clear hr hcs r1 r2
 replace B_b7:=zbx B_b7 e3
 replace B_b9:=zbx B_b9 e3
 replace HBS:=zrx HBS e3
 replace H:=Lib.hid (H.out.ext e3)
 replace X1:=zrx X1 e3
 replace EW:=Lib.hid (EW.out.trans e3)
 clear e3
 go_wp2_with ((with_reducible refine zst (L:=[44,41,31,100]) ?_ ?_); exact rfl)
 unfold Hid
 refine wpList_allocB rfl 41 #[I 0,.slice none 0 0,.bool false,I 0,I 0,I 0,I 0,I 0,I 0,.slice none 0 0,I 0,I 0] (by kernel_rfl) (fun b11 w5_ M5=>?_)
 have D_b7_b11:=zld B_b7 M5
 have D_b9_b11:=zld B_b9 M5
 obtain ⟨D1,HD1⟩ : ∃ X : Nat → Prop,Hid (∀ k,X k ↔ (D k ∧ k ≠ b11)):=⟨_,fun _=>Iff.rfl⟩
 replace HBS:=zmd HD1 M5 HBS
 replace H:=Lib.hid (H.out.widen (B:=D1) (fun k hk h=>(HD1.out k).2 ⟨h,by have q2:=M5.out.at_; omega⟩))
 replace X1:=zmd HD1 M5 X1
 replace X2:=zmd HD1 M5 X2
 replace N_b7:=znw HD1 N_b7
 replace N_b9:=znw HD1 N_b9
 have N_b11 : Hid (¬ D1 b11):=fun h=>((HD1.out _).1 h).2 rfl
 have I_D1 : Hid (∀ k,D1 k → D k):=fun k h=>((HD1.out k).1 h).1
 have O_b11 : Hid (w.heap.size ≤ b11):=by unfold Hid; have q2:=M5.out.at_; have q3:=EW.out.size; omega
 replace B_b7:=zmo M5 B_b7
 replace B_b9:=zmo M5 B_b9
 have B_b11:=zmb M5
 replace HBS:=zme M5 HBS
 replace H:=Lib.hid (H.out.ext M5.out.ext)
 replace X1:=zme M5 X1
 replace X2:=zme M5 X2
 replace EW:=zet EW M5
 go_wp2_with ((with_reducible refine zst (L:=[44,41,31,100]) ?_ ?_); exact rfl)
 unfold Hid
 refine wpList_storeW rfl 41 (.tmp 11) (.tmp 42) rfl b11 rfl [I nv.gen,.slice xa2 nv.box.length xc2,.bool nv.busy,I nv.now.client,I nv.now.token,I nv.now.call.kind,I nv.now.call.name,I nv.now.call.other,I nv.now.call.n,.slice la2 nv.plan.length lc2,I nv.says.err,I nv.says.n] (rfl) B_b11 rfl (by kernel_rfl) rfl (fun w6_ M6=>?_)
 replace B_b7:=zwl M6 B_b7 D_b7_b11
 replace B_b9:=zwl M6 B_b9 D_b9_b11
 replace B_b11:=zwb M6
 replace HBS:=zwr M6 HBS N_b11
 replace H:=Lib.hid (M6.out.rdM H.out N_b11.out)
 replace X1:=zwr M6 X1 N_b11
 replace X2:=zwr M6 X2 N_b11
 replace EW:=zwe M6 EW O_b11
 go_wp2_with fail
 refine wp_region_mono [none,none,none,none,none,none,some (.inl (.bool true)),none,none,none,none,none,some (.inr (fun (r : Value) (wx : World)=>∃ box' plan',r = .agg (cells12 mk.server box' plan').toArray ∧ OwnSv 0 wx box' plan' mk.server)),none,none,some (.inl (.bool true)),none,none] (by kernel_rfl) (by kernel_rfl) ?_ ?_
 ·exact ⟨trivial,trivial,trivial,trivial,trivial,trivial,trivial,trivial,trivial,trivial,trivial,trivial,fun _ _ _ he ⟨x,y,e,h⟩=>⟨x,y,e,h.ext he⟩,trivial,trivial,trivial,trivial,trivial,trivial⟩
 iterate 4 (refine wpM_p (fun K hK=>?_); go_simp; first | refine hK _ ?_ | refine ⟨(fun h=>by cases h),hK _ ?_⟩; clear hK K)
 refine wpM_q (.agg #[I nv.gen,.slice xa1 nv.box.length xc1,.bool nv.busy,I nv.now.client,I nv.now.token,I nv.now.call.kind,I nv.now.call.name,I nv.now.call.other,I nv.now.call.n,.slice la1 nv.plan.length lc1,I nv.says.err,I nv.says.n]) rfl (fun w' hw'=>run_loadM 41 (.tmp 9) rfl b9 0 rfl (blk_ext B_b9.out hw') [I nv.gen,.slice xa1 nv.box.length xc1,.bool nv.busy,I nv.now.client,I nv.now.token,I nv.now.call.kind,I nv.now.call.name,I nv.now.call.other,I nv.now.call.n,.slice la1 nv.plan.length lc1,I nv.says.err,I nv.says.n] rfl Tryz.underlying41 (by kernel_rfl)) ?_
 refine wpM_norm (fun K hK=>?_); go_simp; refine hK _ ?_; clear hK K
 refine wpM_q (.agg #[I nv.gen,.slice xa2 nv.box.length xc2,.bool nv.busy,I nv.now.client,I nv.now.token,I nv.now.call.kind,I nv.now.call.name,I nv.now.call.other,I nv.now.call.n,.slice la2 nv.plan.length lc2,I nv.says.err,I nv.says.n]) rfl (fun w' hw'=>run_loadM 41 (.tmp 11) rfl b11 0 rfl (blk_ext B_b11.out hw') [I nv.gen,.slice xa2 nv.box.length xc2,.bool nv.busy,I nv.now.client,I nv.now.token,I nv.now.call.kind,I nv.now.call.name,I nv.now.call.other,I nv.now.call.n,.slice la2 nv.plan.length lc2,I nv.says.err,I nv.says.n] rfl Tryz.underlying41 (by kernel_rfl)) ?_
 refine wpM_norm (fun K hK=>?_); go_simp; refine hK _ ?_; clear hK K
 refine wpM_x _ rfl (fun w' hw' hk=>?_) ?_
 ·have hg:=gives_exts (sameServer_eq nv _ _ _ _ w' (sv_iff.1 (X1.out.ext hw').out) (sv_iff.1 (X2.out.ext hw').out))
  clear hk
  unfold makes
  go_simp
  exact ⟨Ext.refl _,hg⟩
 refine wpM_norm (fun K hK=>?_); go_simp; refine hK _ ?_; clear hK K
 iterate 4 (refine wpM_p (fun K hK=>?_); go_simp; first | refine hK _ ?_ | refine ⟨(fun h=>by cases h),hK _ ?_⟩; clear hK K)
 refine wpM_q (.agg #[I mk.server.gen,.slice xa mk.server.box.length xc,.bool mk.server.busy,I mk.server.now.client,I mk.server.now.token,I mk.server.now.call.kind,I mk.server.now.call.name,I mk.server.now.call.other,I mk.server.now.call.n,.slice la mk.server.plan.length lc,I mk.server.says.err,I mk.server.says.n]) rfl (fun w' hw'=>run_loadM 41 (.tmp 54) rfl b7 4 rfl (blk_ext B_b7.out hw') [I mk.server.gen,.slice xa mk.server.box.length xc,.bool mk.server.busy,I mk.server.now.client,I mk.server.now.token,I mk.server.now.call.kind,I mk.server.now.call.name,I mk.server.now.call.other,I mk.server.now.call.n,.slice la mk.server.plan.length lc,I mk.server.says.err,I mk.server.says.n] rfl Tryz.underlying41 (by kernel_rfl)) ?_
 refine wpM_norm (fun K hK=>?_); go_simp; refine hK _ ?_; clear hK K
 refine wpM_l _ rfl (fun w' hw' hk=>?_) (fun v56=>?_)
 ·have hg:=(OwnV_any mk.server _ _ w' (H.out.box.ext hw').out (H.out.plan.ext hw').out (small_sy SY0.out (by decide)).2).mono (fun r wx _ h=>(by obtain ⟨x,y,e,h,_⟩:=h; exact ⟨x,y,e,h.low (Nat.zero_le _)⟩ : (fun (r : Value) (wx : World)=>∃ box' plan',r = .agg (cells12 mk.server box' plan').toArray ∧ OwnSv 0 wx box' plan' mk.server) r wx))
  clear hk
  unfold makes
  go_simp
  exact ⟨Ext.refl _,hg⟩
 refine wpM_norm (fun K hK=>?_); go_simp; refine hK _ ?_; clear hK K
 iterate 1 (refine wpM_p (fun K hK=>?_); go_simp; first | refine hK _ ?_ | refine ⟨(fun h=>by cases h),hK _ ?_⟩; clear hK K)
 refine wpM_q (.agg #[I mk.server.gen,.slice xa mk.server.box.length xc,.bool mk.server.busy,I mk.server.now.client,I mk.server.now.token,I mk.server.now.call.kind,I mk.server.now.call.name,I mk.server.now.call.other,I mk.server.now.call.n,.slice la mk.server.plan.length lc,I mk.server.says.err,I mk.server.says.n]) rfl (fun w' hw'=>run_loadM 41 (.tmp 57) rfl b7 4 rfl (blk_ext B_b7.out hw') [I mk.server.gen,.slice xa mk.server.box.length xc,.bool mk.server.busy,I mk.server.now.client,I mk.server.now.token,I mk.server.now.call.kind,I mk.server.now.call.name,I mk.server.now.call.other,I mk.server.now.call.n,.slice la mk.server.plan.length lc,I mk.server.says.err,I mk.server.says.n] rfl Tryz.underlying41 (by kernel_rfl)) ?_
 refine wpM_norm (fun K hK=>?_); go_simp; refine hK _ ?_; clear hK K
 refine wpM_x _ rfl (fun w' hw' hk=>?_) ?_
 ·obtain ⟨bx',pl',rfl,hov⟩ : (fun (r : Value) (wx : World)=>∃ box' plan',r = .agg (cells12 mk.server box' plan').toArray ∧ OwnSv 0 wx box' plan' mk.server) v56 w':=hk 56 (by decide)
  obtain ⟨q1,q2⟩:=hov.rd (B:=fun _=>True) (fun _ _ _=>trivial)
  have hg:=gives_exts (sameServer_eq mk.server _ _ _ _ w' ⟨q1.out,q2.out⟩ ⟨(H.out.box.ext hw').out,(H.out.plan.ext hw').out⟩)
  clear hk
  unfold makes
  go_simp
  exact ⟨Ext.refl _,hg⟩
 refine wpM_norm (fun K hK=>?_); go_simp; refine hK _ ?_; clear hK K
 iterate 2 (refine wpM_p (fun K hK=>?_); go_simp; first | refine hK _ ?_ | refine ⟨(fun h=>by cases h),hK _ ?_⟩; clear hK K)
 refine wpM_nil ?_
 intro w6 e6 _
 replace B_b7:=zbx B_b7 e6
 replace B_b9:=zbx B_b9 e6
 replace B_b11:=zbx B_b11 e6
 replace HBS:=zrx HBS e6
 replace H:=Lib.hid (H.out.ext e6)
 replace X1:=zrx X1 e6
 replace X2:=zrx X2 e6
 replace EW:=Lib.hid (EW.out.trans e6)
 clear e6
 go_wp2_with fail
 have SY1:=sy_come SY0.out HR.out
 rw [HCM.out] at SY1
 go_loopw [62] (fun i wr=>∃ (k : Nat) (E : Nat → Prop) (s : St) (v : Sv) (c u a p box plan : Value),k ≤ 9 ∧ i = I k ∧ Sy s v (401 + k) ∧ Rd E (fun w=>elSt w [c,u,a,p] s ∧ elSv w (cells12 v box plan) v) wr ∧ ¬ E b7 ∧ ¬ E b11 ∧ wr.heap[b7]? = some (.cells #[c,u,a,p,I mk.server.gen,.slice xa mk.server.box.length xc,.bool mk.server.busy,I mk.server.now.client,I mk.server.now.token,I mk.server.now.call.kind,I mk.server.now.call.name,I mk.server.now.call.other,I mk.server.now.call.n,.slice la mk.server.plan.length lc,I mk.server.says.err,I mk.server.says.n,.bool mk.up,I mk.pause,I mk.falls,.slice ka mk.clients.length kc] 44 (0,0)) ∧ wr.heap[b11]? = some (.cells (cells12 v box plan).toArray 41 (0,0)) ∧ Ext w wr) (fun i _=>9 - (intOf i).toNat)
 case atStart=>exact ⟨0,D1,mk.store,nv,_,_,_,_,_,_,Nat.zero_le _,rfl,SY1,(st_rd H.out.cells H.out.undo H.out.answers H.out.past).and X2.out,N_b7.out,N_b11.out,B_b7.out,B_b11.out,EW.out⟩
 case round =>
  obtain ⟨k,E,s,v,c',u',a',p',box',plan',hk,rfl,sy,hs,n7,n11,hb7,hb11,hex⟩:=hrel
  clear B_b7 B_b9 B_b11 H X1 X2 HBS N_b7 N_b9 N_b11 EW
  obtain ⟨s1,s2,s3,s4⟩:=st_iff.1 hs.out.1
  obtain ⟨hb,hp⟩:=sv_iff.1 hs.out.2
  obtain ⟨ca0,cc0,rfl⟩:=row_slice s1
  obtain ⟨ua0,uc0,rfl⟩:=row_slice s2
  obtain ⟨aa0,ac0,rfl⟩:=rowOf_slice s3
  obtain ⟨pa0,pc0,rfl⟩:=rowOf_slice s4
  obtain ⟨xa0,xc0,rfl⟩:=rowOf_slice hb
  obtain ⟨la0,lc0,rfl⟩:=row_slice hp
  have SY:=Lib.hid sy
  have R0:=Lib.hid hs
  have N_b7:=Lib.hid n7
  have N_b11:=Lib.hid n11
  have B_b7 : Hid (wr.heap[b7]? = some (.cells #[.slice ca0 s.cells.length cc0,.slice ua0 s.undo.length uc0,.slice aa0 s.answers.length ac0,.slice pa0 s.past.length pc0,I mk.server.gen,.slice xa mk.server.box.length xc,.bool mk.server.busy,I mk.server.now.client,I mk.server.now.token,I mk.server.now.call.kind,I mk.server.now.call.name,I mk.server.now.call.other,I mk.server.now.call.n,.slice la mk.server.plan.length lc,I mk.server.says.err,I mk.server.says.n,.bool mk.up,I mk.pause,I mk.falls,.slice ka mk.clients.length kc] 44 (0,0))):=hb7
  have B_b11 : Hid (wr.heap[b11]? = some (.cells #[I v.gen,.slice xa0 v.box.length xc0,.bool v.busy,I v.now.client,I v.now.token,I v.now.call.kind,I v.now.call.name,I v.now.call.other,I v.now.call.n,.slice la0 v.plan.length lc0,I v.says.err,I v.says.n] 41 (0,0))):=hb11
  have EW:=Lib.hid hex
  clear sy hs hb hp n7 n11 hb7 hb11 hex s1 s2 s3 s4
  by_cases hlt : k < 9
  ·have hli : (k : Int) < 9:=by omega
   go_wp2_with ((with_reducible refine zst (L:=[44,41,31,100]) ?_ ?_); exact rfl)
   unfold Hid
   clear hli
   refine wpList_loadP rfl 31 (.tmp 65) rfl b7 0 rfl B_b7 [.slice ca0 s.cells.length cc0,.slice ua0 s.undo.length uc0,.slice aa0 s.answers.length ac0,.slice pa0 s.past.length pc0] rfl Tryz.underlying31 (by kernel_rfl) (fun v66 H_v66=>?_)
   go_wp2_with ((with_reducible refine zst (L:=[44,41,31,100]) ?_ ?_); exact rfl)
   unfold Hid
   refine wpList_loadW rfl 41 (.tmp 11) rfl b11 rfl B_b11 Tryz.underlying41 (by kernel_rfl) (fun v67 H_v67=>?_)
   go_wp2_with fail
   rw [H_v66.out,H_v67.out]
   clear H_v66 H_v67
   obtain ⟨E1,HE1⟩ : ∃ X : Nat → Prop,Hid (∀ k,X k ↔ (E k ∨ wr.heap.size ≤ k)):=⟨_,fun _=>Iff.rfl⟩
   replace R0:=Lib.hid (R0.out.widen (B:=E1) fun k _ h=>(HE1.out k).2 (.inl h))
   replace N_b7 : Hid (¬ E1 b7):=zgr HE1 N_b7 B_b7
   replace N_b11 : Hid (¬ E1 b11):=zgr HE1 N_b11 B_b11
   obtain ⟨XS,XV,XB,XE,hSV⟩ : ∃ x y z u,serveM s v = (x,y,z,u):=⟨_,_,_,_,rfl⟩
   have HSV:=Lib.hid hSV
   have hsy:=sy_serve SY.out
   rw [hSV] at hsy
   have SYN:=Lib.hid hsy
   have HSM:=Lib.hid (small_sy SY.out (by omega))
   clear hSV hsy
   refine (Go_keeps s.cells s.undo s.answers s.past v.gen v.box v.busy v.now.client v.now.token v.now.call.kind v.now.call.name v.now.call.other v.now.call.n v.plan v.says.err v.says.n _ _ _ _ _ _ wr R0.out.out.1 (sv_iff.1 R0.out.out.2).1 (sv_iff.1 R0.out.out.2).2 HSM.out.1 HSM.out.2 (fun _=>SY.out.wk.cells.weak)).to fun r w9 e9 hr=>?_
   replace hr : Rd (fun k=>False ∨ wr.heap.size ≤ k) (fun w'=>Tup4 (serveM s v).1 (serveM s v).2.1 (serveM s v).2.2.1 (serveM s v).2.2.2 r w') w9:=hr
   have hin : ∀ k,k < w9.heap.size → (False ∨ wr.heap.size ≤ k) → E1 k:=fun k _ h=>(HE1.out k).2 (.inr (by rcases h with h | h; exact h.elim; exact h))
   rw [HSV.out] at hr
   obtain ⟨cs,ds,bv,rfl,hcs,hds,hbv⟩:=rd_tup4 hr
   obtain ⟨c1,u1,a1,p1,rfl,r1,r2,r3,r4⟩:=rd_st hcs
   obtain ⟨box1,plan1,rfl,r5,r6⟩:=rd_sv hds
   obtain ⟨ca1,cc1,rfl⟩:=row_slice r1.out
   obtain ⟨ua1,uc1,rfl⟩:=row_slice r2.out
   obtain ⟨aa1,ac1,rfl⟩:=rowOf_slice r3.out
   obtain ⟨pa1,pc1,rfl⟩:=rowOf_slice r4.out
   obtain ⟨xa1,xc1,rfl⟩:=rowOf_slice r5.out
   obtain ⟨la1,lc1,rfl⟩:=row_slice r6.out
   obtain ⟨ya1,yc1,rfl⟩:=row_slice hbv.out
   have Q:=Lib.hid (((hcs.and hds).and hbv).widen hin)
   clear hr hcs hds hbv r1 r2 r3 r4 r5 r6 hin
   replace B_b7:=zbx B_b7 e9
   replace B_b11:=zbx B_b11 e9
   replace R0:=zrx R0 e9
   replace EW:=Lib.hid (EW.out.trans e9)
   clear e9
   go_wp2_with ((with_reducible refine zst (L:=[44,41,31,100]) ?_ ?_); exact rfl)
   unfold Hid
   refine wpList_allocB rfl 31 #[.slice none 0 0,.slice none 0 0,.slice none 0 0,.slice none 0 0] (by kernel_rfl) (fun b13 w101_ M101=>?_)
   have D_b7_b13:=zld B_b7 M101
   have D_b11_b13:=zld B_b11 M101
   obtain ⟨E11,HE11⟩ : ∃ X : Nat → Prop,Hid (∀ k,X k ↔ (E1 k ∧ k ≠ b13)):=⟨_,fun _=>Iff.rfl⟩
   replace R0:=zmd HE11 M101 R0
   replace Q:=zmd HE11 M101 Q
   replace N_b7:=znw HE11 N_b7
   replace N_b11:=znw HE11 N_b11
   have N_b13 : Hid (¬ E11 b13):=fun h=>((HE11.out _).1 h).2 rfl
   have I_E11 : Hid (∀ k,E11 k → E1 k):=fun k h=>((HE11.out k).1 h).1
   have O_b13 : Hid (w.heap.size ≤ b13):=by unfold Hid; have q2:=M101.out.at_; have q3:=EW.out.size; omega
   replace B_b7:=zmo M101 B_b7
   replace B_b11:=zmo M101 B_b11
   have B_b13:=zmb M101
   replace R0:=zme M101 R0
   replace Q:=zme M101 Q
   replace EW:=zet EW M101
   go_wp2_with ((with_reducible refine zst (L:=[44,41,31,100]) ?_ ?_); exact rfl)
   unfold Hid
   refine wpList_allocB rfl 41 #[I 0,.slice none 0 0,.bool false,I 0,I 0,I 0,I 0,I 0,I 0,.slice none 0 0,I 0,I 0] (by kernel_rfl) (fun b14 w102_ M102=>?_)
   have D_b7_b14:=zld B_b7 M102
   have D_b11_b14:=zld B_b11 M102
   have D_b13_b14:=zld B_b13 M102
   obtain ⟨E111,HE111⟩ : ∃ X : Nat → Prop,Hid (∀ k,X k ↔ (E11 k ∧ k ≠ b14)):=⟨_,fun _=>Iff.rfl⟩
   replace R0:=zmd HE111 M102 R0
   replace Q:=zmd HE111 M102 Q
   replace N_b7:=znw HE111 N_b7
   replace N_b11:=znw HE111 N_b11
   replace N_b13:=znw HE111 N_b13
   have N_b14 : Hid (¬ E111 b14):=fun h=>((HE111.out _).1 h).2 rfl
   have I_E111 : Hid (∀ k,E111 k → E11 k):=fun k h=>((HE111.out k).1 h).1
   have O_b14 : Hid (w.heap.size ≤ b14):=by unfold Hid; have q2:=M102.out.at_; have q3:=EW.out.size; omega
   replace B_b7:=zmo M102 B_b7
   replace B_b11:=zmo M102 B_b11
   replace B_b13:=zmo M102 B_b13
   have B_b14:=zmb M102
   replace R0:=zme M102 R0
   replace Q:=zme M102 Q
   replace EW:=zet EW M102
   go_wp2_with ((with_reducible refine zst (L:=[44,41,31,100]) ?_ ?_); exact rfl)
   unfold Hid
   refine wpList_storeW rfl 31 (.tmp 13) (.tmp 69) rfl b13 rfl [.slice ca1 XS.cells.length cc1,.slice ua1 XS.undo.length uc1,.slice aa1 XS.answers.length ac1,.slice pa1 XS.past.length pc1] (rfl) B_b13 rfl (by kernel_rfl) rfl (fun w103_ M103=>?_)
   replace B_b7:=zwl M103 B_b7 D_b7_b13
   replace B_b11:=zwl M103 B_b11 D_b11_b13
   replace B_b13:=zwb M103
   replace B_b14:=zwg M103 B_b14 D_b13_b14
   replace R0:=zwr M103 R0 N_b13
   replace Q:=zwr M103 Q N_b13
   replace EW:=zwe M103 EW O_b13
   go_wp2_with ((with_reducible refine zst (L:=[44,41,31,100]) ?_ ?_); exact rfl)
   unfold Hid
   refine wpList_storeW rfl 41 (.tmp 14) (.tmp 70) rfl b14 rfl [I XV.gen,.slice xa1 XV.box.length xc1,.bool XV.busy,I XV.now.client,I XV.now.token,I XV.now.call.kind,I XV.now.call.name,I XV.now.call.other,I XV.now.call.n,.slice la1 XV.plan.length lc1,I XV.says.err,I XV.says.n] (rfl) B_b14 rfl (by kernel_rfl) rfl (fun w104_ M104=>?_)
   replace B_b7:=zwl M104 B_b7 D_b7_b14
   replace B_b11:=zwl M104 B_b11 D_b11_b14
   replace B_b13:=zwl M104 B_b13 D_b13_b14
   replace B_b14:=zwb M104
   replace R0:=zwr M104 R0 N_b14
   replace Q:=zwr M104 Q N_b14
   replace EW:=zwe M104 EW O_b14
   go_wp2_with ((with_reducible refine zst (L:=[44,41,31,100]) ?_ ?_); exact rfl)
   unfold Hid
   refine wpList_loadP rfl 31 (.tmp 74) rfl b7 0 rfl B_b7 [.slice ca0 s.cells.length cc0,.slice ua0 s.undo.length uc0,.slice aa0 s.answers.length ac0,.slice pa0 s.past.length pc0] rfl Tryz.underlying31 (by kernel_rfl) (fun v75 H_v75=>?_)
   go_wp2_with ((with_reducible refine zst (L:=[44,41,31,100]) ?_ ?_); exact rfl)
   unfold Hid
   refine wpList_loadW rfl 41 (.tmp 11) rfl b11 rfl B_b11 Tryz.underlying41 (by kernel_rfl) (fun v76 H_v76=>?_)
   go_wp2_with fail
   rw [H_v75.out,H_v76.out]
   clear H_v75 H_v76
   obtain ⟨E2,HE2⟩ : ∃ X : Nat → Prop,Hid (∀ k,X k ↔ (E111 k ∨ w104_.heap.size ≤ k)):=⟨_,fun _=>Iff.rfl⟩
   replace R0:=Lib.hid (R0.out.widen (B:=E2) fun k _ h=>(HE2.out k).2 (.inl h))
   replace Q:=Lib.hid (Q.out.widen (B:=E2) fun k _ h=>(HE2.out k).2 (.inl h))
   replace N_b7 : Hid (¬ E2 b7):=zgr HE2 N_b7 B_b7
   replace N_b11 : Hid (¬ E2 b11):=zgr HE2 N_b11 B_b11
   replace N_b13 : Hid (¬ E2 b13):=zgr HE2 N_b13 B_b13
   replace N_b14 : Hid (¬ E2 b14):=zgr HE2 N_b14 B_b14
   refine (refServe_keeps s v _ _ _ _ _ _ w104_ E2 R0.out.left (R0.out.right.imp fun w h=>(sv_iff.1 h).1) (R0.out.right.imp fun w h=>(sv_iff.1 h).2) (by have:=SY.out.wk.cells.1; omega) (by have:=SY.out.undo; omega) (by have:=SY.out.answers; omega) (by have:=SY.out.past; omega) (fun _=>SY.out.wk.cells.weak)).to fun r wA e9 hr=>?_
   have hin : ∀ k,k < wA.heap.size → (E2 k ∨ w104_.heap.size ≤ k) → E2 k:=fun k _ h=>(HE2.out k).2 (by rcases h with h | h; exact (HE2.out k).1 h; exact .inr h)
   rw [HSV.out] at hr
   obtain ⟨cs,ds,bv,rfl,hcs,hds,hbv⟩:=rd_tup4 hr
   obtain ⟨c2,u2,a2,p2,rfl,r1,r2,r3,r4⟩:=rd_st hcs
   obtain ⟨box2,plan2,rfl,r5,r6⟩:=rd_sv hds
   obtain ⟨ca2,cc2,rfl⟩:=row_slice r1.out
   obtain ⟨ua2,uc2,rfl⟩:=row_slice r2.out
   obtain ⟨aa2,ac2,rfl⟩:=rowOf_slice r3.out
   obtain ⟨pa2,pc2,rfl⟩:=rowOf_slice r4.out
   obtain ⟨xa2,xc2,rfl⟩:=rowOf_slice r5.out
   obtain ⟨la2,lc2,rfl⟩:=row_slice r6.out
   obtain ⟨ya2,yc2,rfl⟩:=row_slice hbv.out
   have T:=Lib.hid (((hcs.and hds).and hbv).widen hin)
   clear hr hcs hds hbv r1 r2 r3 r4 r5 r6 hin
   replace B_b7:=zbx B_b7 e9
   replace B_b11:=zbx B_b11 e9
   replace B_b13:=zbx B_b13 e9
   replace B_b14:=zbx B_b14 e9
   replace R0:=zrx R0 e9
   replace Q:=zrx Q e9
   replace EW:=Lib.hid (EW.out.trans e9)
   clear e9
   go_wp2_with ((with_reducible refine zst (L:=[44,41,31,100]) ?_ ?_); exact rfl)
   unfold Hid
   refine wpList_allocB rfl 31 #[.slice none 0 0,.slice none 0 0,.slice none 0 0,.slice none 0 0] (by kernel_rfl) (fun b17 w105_ M105=>?_)
   have D_b7_b17:=zld B_b7 M105
   have D_b11_b17:=zld B_b11 M105
   have D_b13_b17:=zld B_b13 M105
   have D_b14_b17:=zld B_b14 M105
   obtain ⟨E21,HE21⟩ : ∃ X : Nat → Prop,Hid (∀ k,X k ↔ (E2 k ∧ k ≠ b17)):=⟨_,fun _=>Iff.rfl⟩
   replace R0:=zmd HE21 M105 R0
   replace Q:=zmd HE21 M105 Q
   replace T:=zmd HE21 M105 T
   replace N_b7:=znw HE21 N_b7
   replace N_b11:=znw HE21 N_b11
   replace N_b13:=znw HE21 N_b13
   replace N_b14:=znw HE21 N_b14
   have N_b17 : Hid (¬ E21 b17):=fun h=>((HE21.out _).1 h).2 rfl
   have I_E21 : Hid (∀ k,E21 k → E2 k):=fun k h=>((HE21.out k).1 h).1
   have O_b17 : Hid (w.heap.size ≤ b17):=by unfold Hid; have q2:=M105.out.at_; have q3:=EW.out.size; omega
   replace B_b7:=zmo M105 B_b7
   replace B_b11:=zmo M105 B_b11
   replace B_b13:=zmo M105 B_b13
   replace B_b14:=zmo M105 B_b14
   have B_b17:=zmb M105
   replace R0:=zme M105 R0
   replace Q:=zme M105 Q
   replace T:=zme M105 T
   replace EW:=zet EW M105
   go_wp2_with ((with_reducible refine zst (L:=[44,41,31,100]) ?_ ?_); exact rfl)
   unfold Hid
   refine wpList_allocB rfl 41 #[I 0,.slice none 0 0,.bool false,I 0,I 0,I 0,I 0,I 0,I 0,.slice none 0 0,I 0,I 0] (by kernel_rfl) (fun b18 w106_ M106=>?_)
   have D_b7_b18:=zld B_b7 M106
   have D_b11_b18:=zld B_b11 M106
   have D_b13_b18:=zld B_b13 M106
   have D_b14_b18:=zld B_b14 M106
   have D_b17_b18:=zld B_b17 M106
   obtain ⟨E211,HE211⟩ : ∃ X : Nat → Prop,Hid (∀ k,X k ↔ (E21 k ∧ k ≠ b18)):=⟨_,fun _=>Iff.rfl⟩
   replace R0:=zmd HE211 M106 R0
   replace Q:=zmd HE211 M106 Q
   replace T:=zmd HE211 M106 T
   replace N_b7:=znw HE211 N_b7
   replace N_b11:=znw HE211 N_b11
   replace N_b13:=znw HE211 N_b13
   replace N_b14:=znw HE211 N_b14
   replace N_b17:=znw HE211 N_b17
   have N_b18 : Hid (¬ E211 b18):=fun h=>((HE211.out _).1 h).2 rfl
   have I_E211 : Hid (∀ k,E211 k → E21 k):=fun k h=>((HE211.out k).1 h).1
   have O_b18 : Hid (w.heap.size ≤ b18):=by unfold Hid; have q2:=M106.out.at_; have q3:=EW.out.size; omega
   replace B_b7:=zmo M106 B_b7
   replace B_b11:=zmo M106 B_b11
   replace B_b13:=zmo M106 B_b13
   replace B_b14:=zmo M106 B_b14
   replace B_b17:=zmo M106 B_b17
   have B_b18:=zmb M106
   replace R0:=zme M106 R0
   replace Q:=zme M106 Q
   replace T:=zme M106 T
   replace EW:=zet EW M106
   go_wp2_with ((with_reducible refine zst (L:=[44,41,31,100]) ?_ ?_); exact rfl)
   unfold Hid
   refine wpList_storeW rfl 31 (.tmp 17) (.tmp 78) rfl b17 rfl [.slice ca2 XS.cells.length cc2,.slice ua2 XS.undo.length uc2,.slice aa2 XS.answers.length ac2,.slice pa2 XS.past.length pc2] (rfl) B_b17 rfl (by kernel_rfl) rfl (fun w107_ M107=>?_)
   replace B_b7:=zwl M107 B_b7 D_b7_b17
   replace B_b11:=zwl M107 B_b11 D_b11_b17
   replace B_b13:=zwl M107 B_b13 D_b13_b17
   replace B_b14:=zwl M107 B_b14 D_b14_b17
   replace B_b17:=zwb M107
   replace B_b18:=zwg M107 B_b18 D_b17_b18
   replace R0:=zwr M107 R0 N_b17
   replace Q:=zwr M107 Q N_b17
   replace T:=zwr M107 T N_b17
   replace EW:=zwe M107 EW O_b17
   go_wp2_with ((with_reducible refine zst (L:=[44,41,31,100]) ?_ ?_); exact rfl)
   unfold Hid
   refine wpList_storeW rfl 41 (.tmp 18) (.tmp 79) rfl b18 rfl [I XV.gen,.slice xa2 XV.box.length xc2,.bool XV.busy,I XV.now.client,I XV.now.token,I XV.now.call.kind,I XV.now.call.name,I XV.now.call.other,I XV.now.call.n,.slice la2 XV.plan.length lc2,I XV.says.err,I XV.says.n] (rfl) B_b18 rfl (by kernel_rfl) rfl (fun w108_ M108=>?_)
   replace B_b7:=zwl M108 B_b7 D_b7_b18
   replace B_b11:=zwl M108 B_b11 D_b11_b18
   replace B_b13:=zwl M108 B_b13 D_b13_b18
   replace B_b14:=zwl M108 B_b14 D_b14_b18
   replace B_b17:=zwl M108 B_b17 D_b17_b18
   replace B_b18:=zwb M108
   replace R0:=zwr M108 R0 N_b18
   replace Q:=zwr M108 Q N_b18
   replace T:=zwr M108 T N_b18
   replace EW:=zwe M108 EW O_b18
   have hcv1:=run_string_of (P:=Tryz.prog) Q.out.out.2 Tryz.underlying24 Tryz.underlying5 Tryz.underlying9
   have hcv2:=run_string_of (P:=Tryz.prog) T.out.out.2 Tryz.underlying24 Tryz.underlying5 Tryz.underlying9
   have ga0:=cell_of (i:=0) B_b14.out rfl
   have ga1:=cell_of (i:=1) B_b14.out rfl
   have ga2:=cell_of (i:=2) B_b14.out rfl
   have ga3:=cell_of (i:=3) B_b14.out rfl
   have ga4:=cell_of (i:=4) B_b14.out rfl
   have ga5:=cell_of (i:=5) B_b14.out rfl
   have ga6:=cell_of (i:=6) B_b14.out rfl
   have ga7:=cell_of (i:=7) B_b14.out rfl
   have ga8:=cell_of (i:=8) B_b14.out rfl
   have ga9:=cell_of (i:=9) B_b14.out rfl
   have ga10:=cell_of (i:=10) B_b14.out rfl
   have ga11:=cell_of (i:=11) B_b14.out rfl
   have gb0:=cell_of (i:=0) B_b18.out rfl
   have gb1:=cell_of (i:=1) B_b18.out rfl
   have gb2:=cell_of (i:=2) B_b18.out rfl
   have gb3:=cell_of (i:=3) B_b18.out rfl
   have gb4:=cell_of (i:=4) B_b18.out rfl
   have gb5:=cell_of (i:=5) B_b18.out rfl
   have gb6:=cell_of (i:=6) B_b18.out rfl
   have gb7:=cell_of (i:=7) B_b18.out rfl
   have gb8:=cell_of (i:=8) B_b18.out rfl
   have gb9:=cell_of (i:=9) B_b18.out rfl
   have gb10:=cell_of (i:=10) B_b18.out rfl
   have gb11:=cell_of (i:=11) B_b18.out rfl
   go_wp2_with fail
   clear hcv1 hcv2 ga0 ga1 ga2 ga3 ga4 ga5 ga6 ga7 ga8 ga9 ga10 ga11 gb0 gb1 gb2 gb3 gb4 gb5 gb6 gb7 gb8 gb9 gb10 gb11
   refine Calls.exts (sameServer_eq XV _ _ _ _ w108_ (sv_iff.1 Q.out.out.1.2) (sv_iff.1 T.out.out.1.2)) (fun wB eB=>?_)
   replace B_b7:=zbx B_b7 eB
   replace B_b11:=zbx B_b11 eB
   replace B_b13:=zbx B_b13 eB
   replace B_b14:=zbx B_b14 eB
   replace B_b17:=zbx B_b17 eB
   replace B_b18:=zbx B_b18 eB
   replace R0:=zrx R0 eB
   replace Q:=zrx Q eB
   replace T:=zrx T eB
   replace EW:=Lib.hid (EW.out.trans eB)
   clear eB
   have ga0:=cell_of (i:=0) B_b13.out rfl
   have ga1:=cell_of (i:=1) B_b13.out rfl
   have ga2:=cell_of (i:=2) B_b13.out rfl
   have ga3:=cell_of (i:=3) B_b13.out rfl
   have gb0:=cell_of (i:=0) B_b17.out rfl
   have gb1:=cell_of (i:=1) B_b17.out rfl
   have gb2:=cell_of (i:=2) B_b17.out rfl
   have gb3:=cell_of (i:=3) B_b17.out rfl
   go_wp2_with fail
   clear ga0 ga1 ga2 ga3 gb0 gb1 gb2 gb3
   refine Calls.exts (sameStore_eq _ _ _ _ _ _ _ _ XS wB Q.out.out.1.1 T.out.out.1.1) (fun wC eC=>?_)
   replace B_b7:=zbx B_b7 eC
   replace B_b11:=zbx B_b11 eC
   replace B_b13:=zbx B_b13 eC
   replace B_b14:=zbx B_b14 eC
   replace B_b17:=zbx B_b17 eC
   replace B_b18:=zbx B_b18 eC
   replace R0:=zrx R0 eC
   replace Q:=zrx Q eC
   replace T:=zrx T eC
   replace EW:=Lib.hid (EW.out.trans eC)
   clear eC
   go_wp2_with fail
   refine held_drew (S:=fun w'=>w'.heap[b17]? = some (.cells #[.slice ca2 XS.cells.length cc2,.slice ua2 XS.undo.length uc2,.slice aa2 XS.answers.length ac2,.slice pa2 XS.past.length pc2] 31 (0,0)) ∧ w'.heap[b18]? = some (.cells #[I XV.gen,.slice xa2 XV.box.length xc2,.bool XV.busy,I XV.now.client,I XV.now.token,I XV.now.call.kind,I XV.now.call.name,I XV.now.call.other,I XV.now.call.n,.slice la2 XV.plan.length lc2,I XV.says.err,I XV.says.n] 41 (0,0))) (by kernel_rfl) (fun wd ed _=>?_)
   replace B_b7:=zbx B_b7 ed
   replace B_b11:=zbx B_b11 ed
   replace B_b13:=zbx B_b13 ed
   replace B_b14:=zbx B_b14 ed
   replace B_b17:=zbx B_b17 ed
   replace B_b18:=zbx B_b18 ed
   replace R0:=zrx R0 ed
   replace Q:=zrx Q ed
   replace T:=zrx T ed
   replace EW:=Lib.hid (EW.out.trans ed)
   have HSS : Hid (wd.heap[b17]? = some (.cells #[.slice ca2 XS.cells.length cc2,.slice ua2 XS.undo.length uc2,.slice aa2 XS.answers.length ac2,.slice pa2 XS.past.length pc2] 31 (0,0)) ∧ wd.heap[b18]? = some (.cells #[I XV.gen,.slice xa2 XV.box.length xc2,.bool XV.busy,I XV.now.client,I XV.now.token,I XV.now.call.kind,I XV.now.call.name,I XV.now.call.other,I XV.now.call.n,.slice la2 XV.plan.length lc2,I XV.says.err,I XV.says.n] 41 (0,0))):=⟨B_b17.out,B_b18.out⟩
   refine held_loadW 0 rfl (by kernel_rfl) (by kernel_rfl) (by kernel_rfl) (fun _ _ _ _ h=>h) rfl 31 (.tmp 17) rfl b17 rfl (fun w' hS=>hS.1) Tryz.underlying31 (by kernel_rfl) HSS ?_
   refine held_norm (fun K hK=>?_); go_simp; refine hK _ ?_; clear hK K
   refine held_loadW 1 rfl (by kernel_rfl) (by kernel_rfl) (by kernel_rfl) (fun _ _ _ _ h=>h) rfl 41 (.tmp 18) rfl b18 rfl (fun w' hS=>hS.2) Tryz.underlying41 (by kernel_rfl) HSS ?_
   refine held_norm (fun K hK=>?_); go_simp; refine hK _ ?_; clear hK K
   refine held_pure 2 rfl (by kernel_rfl) (by kernel_rfl) (by kernel_rfl) (fun _ _ _ _ h=>h) rfl HSS.out (fun K hK=>?_); go_simp; refine hK _ ?_; clear hK K
   refine held_store 3 (by kernel_rfl) rfl rfl 31 (.tmp 106) (.tmp 104) rfl b7 0 rfl [.slice ca2 XS.cells.length cc2,.slice ua2 XS.undo.length uc2,.slice aa2 XS.answers.length ac2,.slice pa2 XS.past.length pc2] (rfl) B_b7.out (Nat.le_of_ble_eq_true rfl) (by kernel_rfl) (ones_of rfl) #[.slice ca2 XS.cells.length cc2,.slice ua2 XS.undo.length uc2,.slice aa2 XS.answers.length ac2,.slice pa2 XS.past.length pc2,I mk.server.gen,.slice xa mk.server.box.length xc,.bool mk.server.busy,I mk.server.now.client,I mk.server.now.token,I mk.server.now.call.kind,I mk.server.now.call.name,I mk.server.now.call.other,I mk.server.now.call.n,.slice la mk.server.plan.length lc,I mk.server.says.err,I mk.server.says.n,.bool mk.up,I mk.pause,I mk.falls,.slice ka mk.clients.length kc] ((splN_eq _ _ _ (Nat.le_of_ble_eq_true rfl)).trans rfl) (fun w109_ M109=>⟨?_,?_⟩)
   ·exact ⟨M109.out.old B_b17.out (Nat.ne_of_gt D_b7_b17.out),M109.out.old B_b18.out (Nat.ne_of_gt D_b7_b18.out)⟩
   replace B_b7:=zwb M109
   replace B_b11:=zwg M109 B_b11 D_b7_b11
   replace B_b13:=zwg M109 B_b13 D_b7_b13
   replace B_b14:=zwg M109 B_b14 D_b7_b14
   replace B_b17:=zwg M109 B_b17 D_b7_b17
   replace B_b18:=zwg M109 B_b18 D_b7_b18
   replace R0:=zwr M109 R0 N_b7
   replace Q:=zwr M109 Q N_b7
   replace T:=zwr M109 T N_b7
   replace EW:=zwe M109 EW O_b7
   clear HSS
   have HSS : Hid (w109_.heap[b17]? = some (.cells #[.slice ca2 XS.cells.length cc2,.slice ua2 XS.undo.length uc2,.slice aa2 XS.answers.length ac2,.slice pa2 XS.past.length pc2] 31 (0,0)) ∧ w109_.heap[b18]? = some (.cells #[I XV.gen,.slice xa2 XV.box.length xc2,.bool XV.busy,I XV.now.client,I XV.now.token,I XV.now.call.kind,I XV.now.call.name,I XV.now.call.other,I XV.now.call.n,.slice la2 XV.plan.length lc2,I XV.says.err,I XV.says.n] 41 (0,0))):=⟨B_b17.out,B_b18.out⟩
   refine held_norm (fun K hK=>?_); go_simp; refine hK _ ?_; clear hK K
   refine held_storeW 4 (by kernel_rfl) rfl rfl 41 (.tmp 11) (.tmp 105) rfl b11 rfl [I XV.gen,.slice xa2 XV.box.length xc2,.bool XV.busy,I XV.now.client,I XV.now.token,I XV.now.call.kind,I XV.now.call.name,I XV.now.call.other,I XV.now.call.n,.slice la2 XV.plan.length lc2,I XV.says.err,I XV.says.n] (rfl) B_b11 rfl (by kernel_rfl) rfl (fun w110_ M110=>⟨?_,?_⟩)
   ·exact ⟨M110.out.old B_b17.out (Nat.ne_of_gt D_b11_b17.out),M110.out.old B_b18.out (Nat.ne_of_gt D_b11_b18.out)⟩
   replace B_b7:=zwl M110 B_b7 D_b7_b11
   replace B_b11:=zwb M110
   replace B_b13:=zwg M110 B_b13 D_b11_b13
   replace B_b14:=zwg M110 B_b14 D_b11_b14
   replace B_b17:=zwg M110 B_b17 D_b11_b17
   replace B_b18:=zwg M110 B_b18 D_b11_b18
   replace R0:=zwr M110 R0 N_b11
   replace Q:=zwr M110 Q N_b11
   replace T:=zwr M110 T N_b11
   replace EW:=zwe M110 EW O_b11
   clear HSS
   have HSS : Hid (w110_.heap[b17]? = some (.cells #[.slice ca2 XS.cells.length cc2,.slice ua2 XS.undo.length uc2,.slice aa2 XS.answers.length ac2,.slice pa2 XS.past.length pc2] 31 (0,0)) ∧ w110_.heap[b18]? = some (.cells #[I XV.gen,.slice xa2 XV.box.length xc2,.bool XV.busy,I XV.now.client,I XV.now.token,I XV.now.call.kind,I XV.now.call.name,I XV.now.call.other,I XV.now.call.n,.slice la2 XV.plan.length lc2,I XV.says.err,I XV.says.n] 41 (0,0))):=⟨B_b17.out,B_b18.out⟩
   refine held_norm (fun K hK=>?_); go_simp; refine hK _ ?_; clear hK K
   refine wpAnyH_done (by kernel_rfl) ?_ _
   clear HSS
   go_wp2
   go_roundw
   case rel=>exact ⟨k + 1,E211,XS,XV,_,_,_,_,_,_,by omega,by go_num,SYN.out,T.out.left,N_b7.out,N_b11.out,B_b7.out,B_b11.out,EW.out⟩
   case measure=>simp [intOf]; omega
  ·have hli : ¬ ((k : Int) < 9):=by omega
   go_wp2
   go_ret
   exact ⟨rfl,EW.out⟩

end Go.Proofs.YtdmipnnfooleladGreat
