/- Texts of the proof, merged: G6. -/
import Derived.Test.YtdmipnnfooleladKM
import Derived.Test.YtdmipnnfooleladKP

namespace Go.Proofs.Ytdmipnnfoolelad
open Go.RowKit Go.Mk

set_option maxRecDepth 100000 in
set_option maxHeartbeats 8000000 in
theorem GuardTells_any (v0 v1 : Value) (l : List (List Cl)) (steps : List (Int × Int)) (n : Int) (w : World) (h0 : RowOf 1 elCls w v0 l) (h1 : Writes w v1 steps) :
  Gives Try.prog 3 #[v0,v1,I n] w fun r _=>r = .bool true:=by
 refine gives_exts ?_
 have HV:=Lib.hid h0
 have HSTP:=Lib.hid h1
 obtain ⟨za,zc,rfl⟩:=rowOf_slice h0
 obtain ⟨ta,tc,rfl⟩:=row_slice h1
 clear h0 h1
 have EW:=Lib.hid (Ext.refl w)
 go_enter Try.func3,Try.ntmps3
 go_wp2_with fail
 refine (refRight_any _ l w HV.out).mono ?_
 rintro e wr0 ⟨bR,rfl,hbR,e0⟩
 cases bR
 case false =>
  go_wp2
  go_ret
  exact ⟨rfl,e0⟩
 have HRL:=Lib.hid (hbR.1 rfl)
 clear hbR
 replace EW:=Lib.hid (EW.out.trans e0)
 clear e0
 go_wp2_with fail
 refine (refPlay_keeps _ _ l steps wr0 (fun _=>True) HRL.out (Rd.widen (Rd.of (rowOf_heap heapCls _ _) (HV.out.ext monoCls' EW.out)) (fun _ _ _=>trivial)) (HSTP.out.ext EW.out)).to fun r wp ep hr=>?_
 obtain ⟨cs,es,rfl,hm,hes⟩:=rd_play hr
 obtain ⟨mk,hmk⟩ : ∃ mk,playM (newMc l) (steps.take 400) = mk:=⟨_,rfl⟩
 have hgd:=gd_play HRL.out steps
 rw [hmk] at hm hgd
 obtain ⟨c,u,a,p,box,plan,cl,rfl,hM⟩:=rd_mc hm
 obtain ⟨ca,cc,ua,uc,aa,ac,pa,pc,xa,xc,la,lc,ka,kc,rfl,rfl,rfl,rfl,rfl,rfl,rfl⟩:=hM.slices
 obtain ⟨B,HB0⟩ : ∃ B : Nat → Prop,Hid (∀ k,B k ↔ True):=⟨_,fun _=>Iff.rfl⟩
 have H:=Lib.hid (hM.widen (B:=B) (fun k _ _=>(HB0.out k).2 trivial))
 have GD:=Lib.hid hgd
 obtain ⟨esa,esc,rfl⟩:=row_slice hes.out
 clear hM hm hr hes hmk hgd HV HSTP
 replace EW:=Lib.hid (EW.out.trans ep)
 clear ep
 go_wp2_with ((with_reducible refine zst (L:=[43,40,30,67]) ?_ ?_); exact rfl)
 unfold Hid
 refine wpList_allocB rfl 43 #[.slice none 0 0,.slice none 0 0,.slice none 0 0,.slice none 0 0,I 0,.slice none 0 0,.bool false,I 0,I 0,I 0,I 0,I 0,I 0,.slice none 0 0,I 0,I 0,.bool false,I 0,I 0,.slice none 0 0] (by kernel_rfl) (fun b7 w1_ M1=>?_)
 obtain ⟨B1,HB1⟩ : ∃ X : Nat → Prop,Hid (∀ k,X k ↔ (B k ∧ k ≠ b7)):=⟨_,fun _=>Iff.rfl⟩
 replace H:=Lib.hid (H.out.widen (B:=B1) (fun k hk h=>(HB1.out k).2 ⟨h,by have q2:=M1.out.at_; omega⟩))
 have N_b7 : Hid (¬ B1 b7):=fun h=>((HB1.out _).1 h).2 rfl
 have I_B1 : Hid (∀ k,B1 k → B k):=fun k h=>((HB1.out k).1 h).1
 have O_b7 : Hid (w.heap.size ≤ b7):=by unfold Hid; have q2:=M1.out.at_; have q3:=EW.out.size; omega
 have B_b7:=zmb M1
 replace H:=Lib.hid (H.out.ext M1.out.ext)
 replace EW:=zet EW M1
 go_wp2_with ((with_reducible refine zst (L:=[43,40,30,67]) ?_ ?_); exact rfl)
 unfold Hid
 refine wpList_storeW rfl 43 (.tmp 7) (.tmp 21) rfl b7 rfl [.slice ca mk.store.cells.length cc,.slice ua mk.store.undo.length uc,.slice aa mk.store.answers.length ac,.slice pa mk.store.past.length pc,I mk.server.gen,.slice xa mk.server.box.length xc,.bool mk.server.busy,I mk.server.now.client,I mk.server.now.token,I mk.server.now.call.kind,I mk.server.now.call.name,I mk.server.now.call.other,I mk.server.now.call.n,.slice la mk.server.plan.length lc,I mk.server.says.err,I mk.server.says.n,.bool mk.up,I mk.pause,I mk.falls,.slice ka mk.clients.length kc] (rfl) B_b7 rfl (by kernel_rfl) rfl (fun w2_ M2=>?_)
 replace B_b7:=zwb M2
 replace H:=Lib.hid (M2.out.rdM H.out N_b7.out)
 replace EW:=zwe M2 EW O_b7
 go_wp2_with ((with_reducible refine zst (L:=[43,40,30,67]) ?_ ?_); exact rfl)
 unfold Hid
 refine wpList_loadW rfl 43 (.tmp 7) rfl b7 rfl B_b7 Try.underlying43 (by kernel_rfl) (fun v24 H_v24=>?_)
 go_wp2_with fail
 rw [H_v24.out]
 clear H_v24
 obtain ⟨XM,xe,hfall⟩ : ∃ x y,fallM mk = (x,y):=⟨_,_,rfl⟩
 have HF:=Lib.hid hfall
 clear hfall
 obtain ⟨C,HC⟩ : ∃ X : Nat → Prop,Hid (∀ k,X k ↔ (B1 k ∨ w2_.heap.size ≤ k)):=⟨_,fun _=>Iff.rfl⟩
 replace H:=Lib.hid (H.out.widen (B:=C) fun k _ h=>(HC.out k).2 (.inl h))
 replace N_b7 : Hid (¬ C b7):=zgrG HC N_b7 B_b7
 refine (FallG_keeps mk _ _ _ _ _ _ _ w2_ C H.out (GD.out.small (by decide)) GD.out.falls.1).to fun r w2 e2 hr=>?_
 rw [HF.out] at hr
 obtain ⟨cs,rfl,hcs⟩:=rd_tupE hr
 obtain ⟨c1,u1,a1,p1,box1,plan1,cl1,rfl,hM⟩:=rd_mc hcs
 obtain ⟨ca1,cc1,ua1,uc1,aa1,ac1,pa1,pc1,xa1,xc1,la1,lc1,ka1,kc1,rfl,rfl,rfl,rfl,rfl,rfl,rfl⟩:=hM.slices
 have X1:=Lib.hid (hM.widen (B:=C) fun k _ h=>(HC.out k).2 (by rcases h with h | h; exact h.elim; exact .inr h))
 clear hr hcs hM
 replace B_b7:=zbx B_b7 e2
 replace H:=Lib.hid (H.out.ext e2)
 replace EW:=Lib.hid (EW.out.trans e2)
 clear e2
 go_wp2_with ((with_reducible refine zst (L:=[43,40,30,67]) ?_ ?_); exact rfl)
 unfold Hid
 refine wpList_allocB rfl 43 #[.slice none 0 0,.slice none 0 0,.slice none 0 0,.slice none 0 0,I 0,.slice none 0 0,.bool false,I 0,I 0,I 0,I 0,I 0,I 0,.slice none 0 0,I 0,I 0,.bool false,I 0,I 0,.slice none 0 0] (by kernel_rfl) (fun b9 w3_ M3=>?_)
 have D_b7_b9:=zld B_b7 M3
 obtain ⟨C1,HC1⟩ : ∃ X : Nat → Prop,Hid (∀ k,X k ↔ (C k ∧ k ≠ b9)):=⟨_,fun _=>Iff.rfl⟩
 replace H:=Lib.hid (H.out.widen (B:=C1) (fun k hk h=>(HC1.out k).2 ⟨h,by have q2:=M3.out.at_; omega⟩))
 replace X1:=Lib.hid (X1.out.widen (B:=C1) (fun k hk h=>(HC1.out k).2 ⟨h,by have q2:=M3.out.at_; omega⟩))
 replace N_b7:=znw HC1 N_b7
 have N_b9 : Hid (¬ C1 b9):=fun h=>((HC1.out _).1 h).2 rfl
 have I_C1 : Hid (∀ k,C1 k → C k):=fun k h=>((HC1.out k).1 h).1
 have O_b9 : Hid (w.heap.size ≤ b9):=by unfold Hid; have q2:=M3.out.at_; have q3:=EW.out.size; omega
 replace B_b7:=zmo M3 B_b7
 have B_b9:=zmb M3
 replace H:=Lib.hid (H.out.ext M3.out.ext)
 replace X1:=Lib.hid (X1.out.ext M3.out.ext)
 replace EW:=zet EW M3
 go_wp2_with ((with_reducible refine zst (L:=[43,40,30,67]) ?_ ?_); exact rfl)
 unfold Hid
 refine wpList_storeW rfl 43 (.tmp 9) (.tmp 26) rfl b9 rfl [.slice ca1 XM.store.cells.length cc1,.slice ua1 XM.store.undo.length uc1,.slice aa1 XM.store.answers.length ac1,.slice pa1 XM.store.past.length pc1,I XM.server.gen,.slice xa1 XM.server.box.length xc1,.bool XM.server.busy,I XM.server.now.client,I XM.server.now.token,I XM.server.now.call.kind,I XM.server.now.call.name,I XM.server.now.call.other,I XM.server.now.call.n,.slice la1 XM.server.plan.length lc1,I XM.server.says.err,I XM.server.says.n,.bool XM.up,I XM.pause,I XM.falls,.slice ka1 XM.clients.length kc1] (rfl) B_b9 rfl (by kernel_rfl) rfl (fun w4_ M4=>?_)
 replace B_b7:=zwl M4 B_b7 D_b7_b9
 replace B_b9:=zwb M4
 replace H:=Lib.hid (M4.out.rdM H.out N_b9.out)
 replace X1:=Lib.hid (M4.out.rdM X1.out N_b9.out)
 replace EW:=zwe M4 EW O_b9
 go_wp2_with ((with_reducible refine zst (L:=[43,40,30,67]) ?_ ?_); exact rfl)
 unfold Hid
 refine wpList_loadW rfl 43 (.tmp 7) rfl b7 rfl B_b7 Try.underlying43 (by kernel_rfl) (fun v29 H_v29=>?_)
 go_wp2_with fail
 rw [H_v29.out]
 clear H_v29
 obtain ⟨D,HD⟩ : ∃ X : Nat → Prop,Hid (∀ k,X k ↔ (C1 k ∨ w4_.heap.size ≤ k)):=⟨_,fun _=>Iff.rfl⟩
 replace H:=Lib.hid (H.out.widen (B:=D) fun k _ h=>(HD.out k).2 (.inl h))
 replace X1:=Lib.hid (X1.out.widen (B:=D) fun k _ h=>(HD.out k).2 (.inl h))
 replace N_b7 : Hid (¬ D b7):=zgrG HD N_b7 B_b7
 replace N_b9 : Hid (¬ D b9):=zgrG HD N_b9 B_b9
 refine (refFall_keeps mk _ _ _ _ _ _ _ w4_ D H.out GD.out.falls.1).to fun r w3 e3 hr=>?_
 rw [HF.out] at hr
 obtain ⟨cs,rfl,hcs⟩:=rd_tupE hr
 obtain ⟨c2,u2,a2,p2,box2,plan2,cl2,rfl,hM⟩:=rd_mc hcs
 obtain ⟨ca2,cc2,ua2,uc2,aa2,ac2,pa2,pc2,xa2,xc2,la2,lc2,ka2,kc2,rfl,rfl,rfl,rfl,rfl,rfl,rfl⟩:=hM.slices
 have X2:=Lib.hid (hM.widen (B:=D) fun k _ h=>(HD.out k).2 (by rcases h with h | h; exact (HD.out k).1 h; exact .inr h))
 clear hr hcs hM
 replace B_b7:=zbx B_b7 e3
 replace B_b9:=zbx B_b9 e3
 replace H:=Lib.hid (H.out.ext e3)
 replace X1:=Lib.hid (X1.out.ext e3)
 replace EW:=Lib.hid (EW.out.trans e3)
 clear e3
 go_wp2_with ((with_reducible refine zst (L:=[43,40,30,67]) ?_ ?_); exact rfl)
 unfold Hid
 refine wpList_allocB rfl 43 #[.slice none 0 0,.slice none 0 0,.slice none 0 0,.slice none 0 0,I 0,.slice none 0 0,.bool false,I 0,I 0,I 0,I 0,I 0,I 0,.slice none 0 0,I 0,I 0,.bool false,I 0,I 0,.slice none 0 0] (by kernel_rfl) (fun b11 w5_ M5=>?_)
 have D_b7_b11:=zld B_b7 M5
 have D_b9_b11:=zld B_b9 M5
 obtain ⟨D1,HD1⟩ : ∃ X : Nat → Prop,Hid (∀ k,X k ↔ (D k ∧ k ≠ b11)):=⟨_,fun _=>Iff.rfl⟩
 replace H:=Lib.hid (H.out.widen (B:=D1) (fun k hk h=>(HD1.out k).2 ⟨h,by have q2:=M5.out.at_; omega⟩))
 replace X1:=Lib.hid (X1.out.widen (B:=D1) (fun k hk h=>(HD1.out k).2 ⟨h,by have q2:=M5.out.at_; omega⟩))
 replace X2:=Lib.hid (X2.out.widen (B:=D1) (fun k hk h=>(HD1.out k).2 ⟨h,by have q2:=M5.out.at_; omega⟩))
 replace N_b7:=znw HD1 N_b7
 replace N_b9:=znw HD1 N_b9
 have N_b11 : Hid (¬ D1 b11):=fun h=>((HD1.out _).1 h).2 rfl
 have I_D1 : Hid (∀ k,D1 k → D k):=fun k h=>((HD1.out k).1 h).1
 have O_b11 : Hid (w.heap.size ≤ b11):=by unfold Hid; have q2:=M5.out.at_; have q3:=EW.out.size; omega
 replace B_b7:=zmo M5 B_b7
 replace B_b9:=zmo M5 B_b9
 have B_b11:=zmb M5
 replace H:=Lib.hid (H.out.ext M5.out.ext)
 replace X1:=Lib.hid (X1.out.ext M5.out.ext)
 replace X2:=Lib.hid (X2.out.ext M5.out.ext)
 replace EW:=zet EW M5
 go_wp2_with ((with_reducible refine zst (L:=[43,40,30,67]) ?_ ?_); exact rfl)
 unfold Hid
 refine wpList_storeW rfl 43 (.tmp 11) (.tmp 31) rfl b11 rfl [.slice ca2 XM.store.cells.length cc2,.slice ua2 XM.store.undo.length uc2,.slice aa2 XM.store.answers.length ac2,.slice pa2 XM.store.past.length pc2,I XM.server.gen,.slice xa2 XM.server.box.length xc2,.bool XM.server.busy,I XM.server.now.client,I XM.server.now.token,I XM.server.now.call.kind,I XM.server.now.call.name,I XM.server.now.call.other,I XM.server.now.call.n,.slice la2 XM.server.plan.length lc2,I XM.server.says.err,I XM.server.says.n,.bool XM.up,I XM.pause,I XM.falls,.slice ka2 XM.clients.length kc2] (rfl) B_b11 rfl (by kernel_rfl) rfl (fun w6_ M6=>?_)
 replace B_b7:=zwl M6 B_b7 D_b7_b11
 replace B_b9:=zwl M6 B_b9 D_b9_b11
 replace B_b11:=zwb M6
 replace H:=Lib.hid (M6.out.rdM H.out N_b11.out)
 replace X1:=Lib.hid (M6.out.rdM X1.out N_b11.out)
 replace X2:=Lib.hid (M6.out.rdM X2.out N_b11.out)
 replace EW:=zwe M6 EW O_b11
 have HPW : Hid (pauseOf n = if n < 1 then 1 else if 3 < n then 3 else n):=by
  unfold Hid pauseOf
  repeat' split
  all_goals omega
 generalize hpn : pauseOf n = pn at *
 have HPN:=Lib.hid hpn
 clear hpn
 by_cases hn1 : n < 1
 case pos =>
  obtain rfl : pn = 1:=by have:=HPW.out; rw [if_pos hn1] at this; exact this
  go_wp2_with fail
  refine wp_region_mono [none,none,none,none,none,none,some (.inl (.bool true)),none,none,none,some (.inr (McAt (tickM mk))),none,some (.inr (McAt (tickM mk))),some (.inl (.bool true)),none,none,none,some (.inr (McAt mk)),none,some (.inl (.bool true)),none,none,none,some (.inl (I 1)),none,none,none,none] (by kernel_rfl) (by kernel_rfl) ?_ ?_
  ·exact ⟨trivial,trivial,trivial,trivial,trivial,trivial,trivial,trivial,trivial,trivial,fun _ _ _ he h=>h.ext he,trivial,fun _ _ _ he h=>h.ext he,trivial,trivial,trivial,trivial,fun _ _ _ he h=>h.ext he,trivial,trivial,trivial,trivial,trivial,trivial,trivial,trivial,trivial,trivial,trivial⟩
  iterate 4 (refine wpM_p (fun K hK=>?_); go_simp; first | refine hK _ ?_ | refine ⟨(fun h=>by cases h),hK _ ?_⟩; clear hK K)
  refine wpM_q (.agg #[.slice ca1 XM.store.cells.length cc1,.slice ua1 XM.store.undo.length uc1,.slice aa1 XM.store.answers.length ac1,.slice pa1 XM.store.past.length pc1,I XM.server.gen,.slice xa1 XM.server.box.length xc1,.bool XM.server.busy,I XM.server.now.client,I XM.server.now.token,I XM.server.now.call.kind,I XM.server.now.call.name,I XM.server.now.call.other,I XM.server.now.call.n,.slice la1 XM.server.plan.length lc1,I XM.server.says.err,I XM.server.says.n,.bool XM.up,I XM.pause,I XM.falls,.slice ka1 XM.clients.length kc1]) rfl (fun w' hw'=>run_loadM 43 (.tmp 9) rfl b9 0 rfl (blk_ext B_b9.out hw') [.slice ca1 XM.store.cells.length cc1,.slice ua1 XM.store.undo.length uc1,.slice aa1 XM.store.answers.length ac1,.slice pa1 XM.store.past.length pc1,I XM.server.gen,.slice xa1 XM.server.box.length xc1,.bool XM.server.busy,I XM.server.now.client,I XM.server.now.token,I XM.server.now.call.kind,I XM.server.now.call.name,I XM.server.now.call.other,I XM.server.now.call.n,.slice la1 XM.server.plan.length lc1,I XM.server.says.err,I XM.server.says.n,.bool XM.up,I XM.pause,I XM.falls,.slice ka1 XM.clients.length kc1] rfl Try.underlying43 (by kernel_rfl)) ?_
  refine wpM_norm (fun K hK=>?_); go_simp; refine hK _ ?_; clear hK K
  refine wpM_q (.agg #[.slice ca2 XM.store.cells.length cc2,.slice ua2 XM.store.undo.length uc2,.slice aa2 XM.store.answers.length ac2,.slice pa2 XM.store.past.length pc2,I XM.server.gen,.slice xa2 XM.server.box.length xc2,.bool XM.server.busy,I XM.server.now.client,I XM.server.now.token,I XM.server.now.call.kind,I XM.server.now.call.name,I XM.server.now.call.other,I XM.server.now.call.n,.slice la2 XM.server.plan.length lc2,I XM.server.says.err,I XM.server.says.n,.bool XM.up,I XM.pause,I XM.falls,.slice ka2 XM.clients.length kc2]) rfl (fun w' hw'=>run_loadM 43 (.tmp 11) rfl b11 0 rfl (blk_ext B_b11.out hw') [.slice ca2 XM.store.cells.length cc2,.slice ua2 XM.store.undo.length uc2,.slice aa2 XM.store.answers.length ac2,.slice pa2 XM.store.past.length pc2,I XM.server.gen,.slice xa2 XM.server.box.length xc2,.bool XM.server.busy,I XM.server.now.client,I XM.server.now.token,I XM.server.now.call.kind,I XM.server.now.call.name,I XM.server.now.call.other,I XM.server.now.call.n,.slice la2 XM.server.plan.length lc2,I XM.server.says.err,I XM.server.says.n,.bool XM.up,I XM.pause,I XM.falls,.slice ka2 XM.clients.length kc2] rfl Try.underlying43 (by kernel_rfl)) ?_
  refine wpM_norm (fun K hK=>?_); go_simp; refine hK _ ?_; clear hK K
  refine wpM_x _ rfl (fun w' hw' hk=>?_) ?_
  ·have hg:=gives_exts (sameMachine_eq XM _ _ _ _ _ _ _ _ _ _ _ _ _ _ w' (X1.out.ext hw') (X2.out.ext hw'))
   clear hk
   unfold makes
   go_simp
   exact ⟨Ext.refl _,hg⟩
  refine wpM_norm (fun K hK=>?_); go_simp; refine hK _ ?_; clear hK K
  iterate 2 (refine wpM_p (fun K hK=>?_); go_simp; first | refine hK _ ?_ | refine ⟨(fun h=>by cases h),hK _ ?_⟩; clear hK K)
  refine wpM_q (.agg #[.slice ca mk.store.cells.length cc,.slice ua mk.store.undo.length uc,.slice aa mk.store.answers.length ac,.slice pa mk.store.past.length pc,I mk.server.gen,.slice xa mk.server.box.length xc,.bool mk.server.busy,I mk.server.now.client,I mk.server.now.token,I mk.server.now.call.kind,I mk.server.now.call.name,I mk.server.now.call.other,I mk.server.now.call.n,.slice la mk.server.plan.length lc,I mk.server.says.err,I mk.server.says.n,.bool mk.up,I mk.pause,I mk.falls,.slice ka mk.clients.length kc]) rfl (fun w' hw'=>run_loadM 43 (.tmp 7) rfl b7 0 rfl (blk_ext B_b7.out hw') [.slice ca mk.store.cells.length cc,.slice ua mk.store.undo.length uc,.slice aa mk.store.answers.length ac,.slice pa mk.store.past.length pc,I mk.server.gen,.slice xa mk.server.box.length xc,.bool mk.server.busy,I mk.server.now.client,I mk.server.now.token,I mk.server.now.call.kind,I mk.server.now.call.name,I mk.server.now.call.other,I mk.server.now.call.n,.slice la mk.server.plan.length lc,I mk.server.says.err,I mk.server.says.n,.bool mk.up,I mk.pause,I mk.falls,.slice ka mk.clients.length kc] rfl Try.underlying43 (by kernel_rfl)) ?_
  refine wpM_norm (fun K hK=>?_); go_simp; refine hK _ ?_; clear hK K
  refine wpM_l _ rfl (fun w' hw' hk=>?_) (fun v48=>?_)
  ·have hg:=mcAt_of (TickG_keeps mk _ _ _ _ _ _ _ w' _ (H.out.ext hw') (GD.out.small (by decide)) GD.out.gen GD.out.down)
   clear hk
   unfold makes
   go_simp
   exact ⟨Ext.refl _,hg⟩
  refine wpM_norm (fun K hK=>?_); go_simp; refine hK _ ?_; clear hK K
  refine wpM_q (.agg #[.slice ca mk.store.cells.length cc,.slice ua mk.store.undo.length uc,.slice aa mk.store.answers.length ac,.slice pa mk.store.past.length pc,I mk.server.gen,.slice xa mk.server.box.length xc,.bool mk.server.busy,I mk.server.now.client,I mk.server.now.token,I mk.server.now.call.kind,I mk.server.now.call.name,I mk.server.now.call.other,I mk.server.now.call.n,.slice la mk.server.plan.length lc,I mk.server.says.err,I mk.server.says.n,.bool mk.up,I mk.pause,I mk.falls,.slice ka mk.clients.length kc]) rfl (fun w' hw'=>run_loadM 43 (.tmp 7) rfl b7 0 rfl (blk_ext B_b7.out hw') [.slice ca mk.store.cells.length cc,.slice ua mk.store.undo.length uc,.slice aa mk.store.answers.length ac,.slice pa mk.store.past.length pc,I mk.server.gen,.slice xa mk.server.box.length xc,.bool mk.server.busy,I mk.server.now.client,I mk.server.now.token,I mk.server.now.call.kind,I mk.server.now.call.name,I mk.server.now.call.other,I mk.server.now.call.n,.slice la mk.server.plan.length lc,I mk.server.says.err,I mk.server.says.n,.bool mk.up,I mk.pause,I mk.falls,.slice ka mk.clients.length kc] rfl Try.underlying43 (by kernel_rfl)) ?_
  refine wpM_norm (fun K hK=>?_); go_simp; refine hK _ ?_; clear hK K
  refine wpM_l _ rfl (fun w' hw' hk=>?_) (fun v50=>?_)
  ·have hg:=mcAt_of (refTick_keeps mk _ _ _ _ _ _ _ w' _ (H.out.ext hw') GD.out.cells GD.out.gen GD.out.pause)
   clear hk
   unfold makes
   go_simp
   exact ⟨Ext.refl _,hg⟩
  refine wpM_norm (fun K hK=>?_); go_simp; refine hK _ ?_; clear hK K
  refine wpM_x _ rfl (fun w' hw' hk=>?_) ?_
  ·obtain ⟨_,_,_,_,_,_,_,rfl,q1⟩ : McAt (tickM mk) v48 w':=hk 48 (by decide)
   obtain ⟨_,_,_,_,_,_,_,rfl,q2⟩ : McAt (tickM mk) v50 w':=hk 50 (by decide)
   have hg:=gives_exts (sameMachine_eq (tickM mk) _ _ _ _ _ _ _ _ _ _ _ _ _ _ w' q1 q2)
   clear hk
   unfold makes
   go_simp
   exact ⟨Ext.refl _,hg⟩
  refine wpM_norm (fun K hK=>?_); go_simp; refine hK _ ?_; clear hK K
  iterate 2 (refine wpM_p (fun K hK=>?_); go_simp; first | refine hK _ ?_ | refine ⟨(fun h=>by cases h),hK _ ?_⟩; clear hK K)
  refine wpM_q (.agg #[.slice ca mk.store.cells.length cc,.slice ua mk.store.undo.length uc,.slice aa mk.store.answers.length ac,.slice pa mk.store.past.length pc,I mk.server.gen,.slice xa mk.server.box.length xc,.bool mk.server.busy,I mk.server.now.client,I mk.server.now.token,I mk.server.now.call.kind,I mk.server.now.call.name,I mk.server.now.call.other,I mk.server.now.call.n,.slice la mk.server.plan.length lc,I mk.server.says.err,I mk.server.says.n,.bool mk.up,I mk.pause,I mk.falls,.slice ka mk.clients.length kc]) rfl (fun w' hw'=>run_loadM 43 (.tmp 7) rfl b7 0 rfl (blk_ext B_b7.out hw') [.slice ca mk.store.cells.length cc,.slice ua mk.store.undo.length uc,.slice aa mk.store.answers.length ac,.slice pa mk.store.past.length pc,I mk.server.gen,.slice xa mk.server.box.length xc,.bool mk.server.busy,I mk.server.now.client,I mk.server.now.token,I mk.server.now.call.kind,I mk.server.now.call.name,I mk.server.now.call.other,I mk.server.now.call.n,.slice la mk.server.plan.length lc,I mk.server.says.err,I mk.server.says.n,.bool mk.up,I mk.pause,I mk.falls,.slice ka mk.clients.length kc] rfl Try.underlying43 (by kernel_rfl)) ?_
  refine wpM_norm (fun K hK=>?_); go_simp; refine hK _ ?_; clear hK K
  refine wpM_l _ rfl (fun w' hw' hk=>?_) (fun v55=>?_)
  ·have hg:=mcAt_of (OwnM_keeps mk _ _ _ _ _ _ _ w' _ (H.out.ext hw') (GD.out.small (by decide)))
   clear hk
   unfold makes
   go_simp
   exact ⟨Ext.refl _,hg⟩
  refine wpM_norm (fun K hK=>?_); go_simp; refine hK _ ?_; clear hK K
  refine wpM_q (.agg #[.slice ca mk.store.cells.length cc,.slice ua mk.store.undo.length uc,.slice aa mk.store.answers.length ac,.slice pa mk.store.past.length pc,I mk.server.gen,.slice xa mk.server.box.length xc,.bool mk.server.busy,I mk.server.now.client,I mk.server.now.token,I mk.server.now.call.kind,I mk.server.now.call.name,I mk.server.now.call.other,I mk.server.now.call.n,.slice la mk.server.plan.length lc,I mk.server.says.err,I mk.server.says.n,.bool mk.up,I mk.pause,I mk.falls,.slice ka mk.clients.length kc]) rfl (fun w' hw'=>run_loadM 43 (.tmp 7) rfl b7 0 rfl (blk_ext B_b7.out hw') [.slice ca mk.store.cells.length cc,.slice ua mk.store.undo.length uc,.slice aa mk.store.answers.length ac,.slice pa mk.store.past.length pc,I mk.server.gen,.slice xa mk.server.box.length xc,.bool mk.server.busy,I mk.server.now.client,I mk.server.now.token,I mk.server.now.call.kind,I mk.server.now.call.name,I mk.server.now.call.other,I mk.server.now.call.n,.slice la mk.server.plan.length lc,I mk.server.says.err,I mk.server.says.n,.bool mk.up,I mk.pause,I mk.falls,.slice ka mk.clients.length kc] rfl Try.underlying43 (by kernel_rfl)) ?_
  refine wpM_norm (fun K hK=>?_); go_simp; refine hK _ ?_; clear hK K
  refine wpM_x _ rfl (fun w' hw' hk=>?_) ?_
  ·obtain ⟨_,_,_,_,_,_,_,rfl,q1⟩ : McAt mk v55 w':=hk 55 (by decide)
   have hg:=gives_exts (sameMachine_eq mk _ _ _ _ _ _ _ _ _ _ _ _ _ _ w' q1 (H.out.ext hw'))
   clear hk
   unfold makes
   go_simp
   exact ⟨Ext.refl _,hg⟩
  refine wpM_norm (fun K hK=>?_); go_simp; refine hK _ ?_; clear hK K
  iterate 3 (refine wpM_p (fun K hK=>?_); go_simp; first | refine hK _ ?_ | refine ⟨(fun h=>by cases h),hK _ ?_⟩; clear hK K)
  refine wpM_x _ rfl (fun w' hw' hk=>?_) ?_
  ·have hg:=Pause_any n w'
   rw [HPN.out] at hg
   clear hk
   unfold makes
   go_simp
   exact ⟨Ext.refl _,hg⟩
  refine wpM_norm (fun K hK=>?_); go_simp; refine hK _ ?_; clear hK K
  iterate 4 (refine wpM_p (fun K hK=>?_); go_simp; first | refine hK _ ?_ | refine ⟨(fun h=>by cases h),hK _ ?_⟩; clear hK K)
  refine wpM_nil ?_
  intro w6 e6 _
  replace B_b7:=zbx B_b7 e6
  replace B_b9:=zbx B_b9 e6
  replace B_b11:=zbx B_b11 e6
  replace H:=Lib.hid (H.out.ext e6)
  replace X1:=Lib.hid (X1.out.ext e6)
  replace X2:=Lib.hid (X2.out.ext e6)
  replace EW:=Lib.hid (EW.out.trans e6)
  clear e6
  go_wp2
  go_ret
  exact ⟨rfl,EW.out⟩
 by_cases hn3 : 3 < n
 case pos =>
  obtain rfl : pn = 3:=by have:=HPW.out; rw [if_neg hn1,if_pos hn3] at this; exact this
  go_wp2_with fail
  refine wp_region_mono [none,none,none,none,none,none,some (.inl (.bool true)),none,none,none,some (.inr (McAt (tickM mk))),none,some (.inr (McAt (tickM mk))),some (.inl (.bool true)),none,none,none,some (.inr (McAt mk)),none,some (.inl (.bool true)),none,none,none,some (.inl (I 3)),none,none,none,none] (by kernel_rfl) (by kernel_rfl) ?_ ?_
  ·exact ⟨trivial,trivial,trivial,trivial,trivial,trivial,trivial,trivial,trivial,trivial,fun _ _ _ he h=>h.ext he,trivial,fun _ _ _ he h=>h.ext he,trivial,trivial,trivial,trivial,fun _ _ _ he h=>h.ext he,trivial,trivial,trivial,trivial,trivial,trivial,trivial,trivial,trivial,trivial,trivial⟩
  iterate 4 (refine wpM_p (fun K hK=>?_); go_simp; first | refine hK _ ?_ | refine ⟨(fun h=>by cases h),hK _ ?_⟩; clear hK K)
  refine wpM_q (.agg #[.slice ca1 XM.store.cells.length cc1,.slice ua1 XM.store.undo.length uc1,.slice aa1 XM.store.answers.length ac1,.slice pa1 XM.store.past.length pc1,I XM.server.gen,.slice xa1 XM.server.box.length xc1,.bool XM.server.busy,I XM.server.now.client,I XM.server.now.token,I XM.server.now.call.kind,I XM.server.now.call.name,I XM.server.now.call.other,I XM.server.now.call.n,.slice la1 XM.server.plan.length lc1,I XM.server.says.err,I XM.server.says.n,.bool XM.up,I XM.pause,I XM.falls,.slice ka1 XM.clients.length kc1]) rfl (fun w' hw'=>run_loadM 43 (.tmp 9) rfl b9 0 rfl (blk_ext B_b9.out hw') [.slice ca1 XM.store.cells.length cc1,.slice ua1 XM.store.undo.length uc1,.slice aa1 XM.store.answers.length ac1,.slice pa1 XM.store.past.length pc1,I XM.server.gen,.slice xa1 XM.server.box.length xc1,.bool XM.server.busy,I XM.server.now.client,I XM.server.now.token,I XM.server.now.call.kind,I XM.server.now.call.name,I XM.server.now.call.other,I XM.server.now.call.n,.slice la1 XM.server.plan.length lc1,I XM.server.says.err,I XM.server.says.n,.bool XM.up,I XM.pause,I XM.falls,.slice ka1 XM.clients.length kc1] rfl Try.underlying43 (by kernel_rfl)) ?_
  refine wpM_norm (fun K hK=>?_); go_simp; refine hK _ ?_; clear hK K
  refine wpM_q (.agg #[.slice ca2 XM.store.cells.length cc2,.slice ua2 XM.store.undo.length uc2,.slice aa2 XM.store.answers.length ac2,.slice pa2 XM.store.past.length pc2,I XM.server.gen,.slice xa2 XM.server.box.length xc2,.bool XM.server.busy,I XM.server.now.client,I XM.server.now.token,I XM.server.now.call.kind,I XM.server.now.call.name,I XM.server.now.call.other,I XM.server.now.call.n,.slice la2 XM.server.plan.length lc2,I XM.server.says.err,I XM.server.says.n,.bool XM.up,I XM.pause,I XM.falls,.slice ka2 XM.clients.length kc2]) rfl (fun w' hw'=>run_loadM 43 (.tmp 11) rfl b11 0 rfl (blk_ext B_b11.out hw') [.slice ca2 XM.store.cells.length cc2,.slice ua2 XM.store.undo.length uc2,.slice aa2 XM.store.answers.length ac2,.slice pa2 XM.store.past.length pc2,I XM.server.gen,.slice xa2 XM.server.box.length xc2,.bool XM.server.busy,I XM.server.now.client,I XM.server.now.token,I XM.server.now.call.kind,I XM.server.now.call.name,I XM.server.now.call.other,I XM.server.now.call.n,.slice la2 XM.server.plan.length lc2,I XM.server.says.err,I XM.server.says.n,.bool XM.up,I XM.pause,I XM.falls,.slice ka2 XM.clients.length kc2] rfl Try.underlying43 (by kernel_rfl)) ?_
  refine wpM_norm (fun K hK=>?_); go_simp; refine hK _ ?_; clear hK K
  refine wpM_x _ rfl (fun w' hw' hk=>?_) ?_
  ·have hg:=gives_exts (sameMachine_eq XM _ _ _ _ _ _ _ _ _ _ _ _ _ _ w' (X1.out.ext hw') (X2.out.ext hw'))
   clear hk
   unfold makes
   go_simp
   exact ⟨Ext.refl _,hg⟩
  refine wpM_norm (fun K hK=>?_); go_simp; refine hK _ ?_; clear hK K
  iterate 2 (refine wpM_p (fun K hK=>?_); go_simp; first | refine hK _ ?_ | refine ⟨(fun h=>by cases h),hK _ ?_⟩; clear hK K)
  refine wpM_q (.agg #[.slice ca mk.store.cells.length cc,.slice ua mk.store.undo.length uc,.slice aa mk.store.answers.length ac,.slice pa mk.store.past.length pc,I mk.server.gen,.slice xa mk.server.box.length xc,.bool mk.server.busy,I mk.server.now.client,I mk.server.now.token,I mk.server.now.call.kind,I mk.server.now.call.name,I mk.server.now.call.other,I mk.server.now.call.n,.slice la mk.server.plan.length lc,I mk.server.says.err,I mk.server.says.n,.bool mk.up,I mk.pause,I mk.falls,.slice ka mk.clients.length kc]) rfl (fun w' hw'=>run_loadM 43 (.tmp 7) rfl b7 0 rfl (blk_ext B_b7.out hw') [.slice ca mk.store.cells.length cc,.slice ua mk.store.undo.length uc,.slice aa mk.store.answers.length ac,.slice pa mk.store.past.length pc,I mk.server.gen,.slice xa mk.server.box.length xc,.bool mk.server.busy,I mk.server.now.client,I mk.server.now.token,I mk.server.now.call.kind,I mk.server.now.call.name,I mk.server.now.call.other,I mk.server.now.call.n,.slice la mk.server.plan.length lc,I mk.server.says.err,I mk.server.says.n,.bool mk.up,I mk.pause,I mk.falls,.slice ka mk.clients.length kc] rfl Try.underlying43 (by kernel_rfl)) ?_
  refine wpM_norm (fun K hK=>?_); go_simp; refine hK _ ?_; clear hK K
  refine wpM_l _ rfl (fun w' hw' hk=>?_) (fun v48=>?_)
  ·have hg:=mcAt_of (TickG_keeps mk _ _ _ _ _ _ _ w' _ (H.out.ext hw') (GD.out.small (by decide)) GD.out.gen GD.out.down)
   clear hk
   unfold makes
   go_simp
   exact ⟨Ext.refl _,hg⟩
  refine wpM_norm (fun K hK=>?_); go_simp; refine hK _ ?_; clear hK K
  refine wpM_q (.agg #[.slice ca mk.store.cells.length cc,.slice ua mk.store.undo.length uc,.slice aa mk.store.answers.length ac,.slice pa mk.store.past.length pc,I mk.server.gen,.slice xa mk.server.box.length xc,.bool mk.server.busy,I mk.server.now.client,I mk.server.now.token,I mk.server.now.call.kind,I mk.server.now.call.name,I mk.server.now.call.other,I mk.server.now.call.n,.slice la mk.server.plan.length lc,I mk.server.says.err,I mk.server.says.n,.bool mk.up,I mk.pause,I mk.falls,.slice ka mk.clients.length kc]) rfl (fun w' hw'=>run_loadM 43 (.tmp 7) rfl b7 0 rfl (blk_ext B_b7.out hw') [.slice ca mk.store.cells.length cc,.slice ua mk.store.undo.length uc,.slice aa mk.store.answers.length ac,.slice pa mk.store.past.length pc,I mk.server.gen,.slice xa mk.server.box.length xc,.bool mk.server.busy,I mk.server.now.client,I mk.server.now.token,I mk.server.now.call.kind,I mk.server.now.call.name,I mk.server.now.call.other,I mk.server.now.call.n,.slice la mk.server.plan.length lc,I mk.server.says.err,I mk.server.says.n,.bool mk.up,I mk.pause,I mk.falls,.slice ka mk.clients.length kc] rfl Try.underlying43 (by kernel_rfl)) ?_
  refine wpM_norm (fun K hK=>?_); go_simp; refine hK _ ?_; clear hK K
  refine wpM_l _ rfl (fun w' hw' hk=>?_) (fun v50=>?_)
  ·have hg:=mcAt_of (refTick_keeps mk _ _ _ _ _ _ _ w' _ (H.out.ext hw') GD.out.cells GD.out.gen GD.out.pause)
   clear hk
   unfold makes
   go_simp
   exact ⟨Ext.refl _,hg⟩
  refine wpM_norm (fun K hK=>?_); go_simp; refine hK _ ?_; clear hK K
  refine wpM_x _ rfl (fun w' hw' hk=>?_) ?_
  ·obtain ⟨_,_,_,_,_,_,_,rfl,q1⟩ : McAt (tickM mk) v48 w':=hk 48 (by decide)
   obtain ⟨_,_,_,_,_,_,_,rfl,q2⟩ : McAt (tickM mk) v50 w':=hk 50 (by decide)
   have hg:=gives_exts (sameMachine_eq (tickM mk) _ _ _ _ _ _ _ _ _ _ _ _ _ _ w' q1 q2)
   clear hk
   unfold makes
   go_simp
   exact ⟨Ext.refl _,hg⟩
  refine wpM_norm (fun K hK=>?_); go_simp; refine hK _ ?_; clear hK K
  iterate 2 (refine wpM_p (fun K hK=>?_); go_simp; first | refine hK _ ?_ | refine ⟨(fun h=>by cases h),hK _ ?_⟩; clear hK K)
  refine wpM_q (.agg #[.slice ca mk.store.cells.length cc,.slice ua mk.store.undo.length uc,.slice aa mk.store.answers.length ac,.slice pa mk.store.past.length pc,I mk.server.gen,.slice xa mk.server.box.length xc,.bool mk.server.busy,I mk.server.now.client,I mk.server.now.token,I mk.server.now.call.kind,I mk.server.now.call.name,I mk.server.now.call.other,I mk.server.now.call.n,.slice la mk.server.plan.length lc,I mk.server.says.err,I mk.server.says.n,.bool mk.up,I mk.pause,I mk.falls,.slice ka mk.clients.length kc]) rfl (fun w' hw'=>run_loadM 43 (.tmp 7) rfl b7 0 rfl (blk_ext B_b7.out hw') [.slice ca mk.store.cells.length cc,.slice ua mk.store.undo.length uc,.slice aa mk.store.answers.length ac,.slice pa mk.store.past.length pc,I mk.server.gen,.slice xa mk.server.box.length xc,.bool mk.server.busy,I mk.server.now.client,I mk.server.now.token,I mk.server.now.call.kind,I mk.server.now.call.name,I mk.server.now.call.other,I mk.server.now.call.n,.slice la mk.server.plan.length lc,I mk.server.says.err,I mk.server.says.n,.bool mk.up,I mk.pause,I mk.falls,.slice ka mk.clients.length kc] rfl Try.underlying43 (by kernel_rfl)) ?_
  refine wpM_norm (fun K hK=>?_); go_simp; refine hK _ ?_; clear hK K
  refine wpM_l _ rfl (fun w' hw' hk=>?_) (fun v55=>?_)
  ·have hg:=mcAt_of (OwnM_keeps mk _ _ _ _ _ _ _ w' _ (H.out.ext hw') (GD.out.small (by decide)))
   clear hk
   unfold makes
   go_simp
   exact ⟨Ext.refl _,hg⟩
  refine wpM_norm (fun K hK=>?_); go_simp; refine hK _ ?_; clear hK K
  refine wpM_q (.agg #[.slice ca mk.store.cells.length cc,.slice ua mk.store.undo.length uc,.slice aa mk.store.answers.length ac,.slice pa mk.store.past.length pc,I mk.server.gen,.slice xa mk.server.box.length xc,.bool mk.server.busy,I mk.server.now.client,I mk.server.now.token,I mk.server.now.call.kind,I mk.server.now.call.name,I mk.server.now.call.other,I mk.server.now.call.n,.slice la mk.server.plan.length lc,I mk.server.says.err,I mk.server.says.n,.bool mk.up,I mk.pause,I mk.falls,.slice ka mk.clients.length kc]) rfl (fun w' hw'=>run_loadM 43 (.tmp 7) rfl b7 0 rfl (blk_ext B_b7.out hw') [.slice ca mk.store.cells.length cc,.slice ua mk.store.undo.length uc,.slice aa mk.store.answers.length ac,.slice pa mk.store.past.length pc,I mk.server.gen,.slice xa mk.server.box.length xc,.bool mk.server.busy,I mk.server.now.client,I mk.server.now.token,I mk.server.now.call.kind,I mk.server.now.call.name,I mk.server.now.call.other,I mk.server.now.call.n,.slice la mk.server.plan.length lc,I mk.server.says.err,I mk.server.says.n,.bool mk.up,I mk.pause,I mk.falls,.slice ka mk.clients.length kc] rfl Try.underlying43 (by kernel_rfl)) ?_
  refine wpM_norm (fun K hK=>?_); go_simp; refine hK _ ?_; clear hK K
  refine wpM_x _ rfl (fun w' hw' hk=>?_) ?_
  ·obtain ⟨_,_,_,_,_,_,_,rfl,q1⟩ : McAt mk v55 w':=hk 55 (by decide)
   have hg:=gives_exts (sameMachine_eq mk _ _ _ _ _ _ _ _ _ _ _ _ _ _ w' q1 (H.out.ext hw'))
   clear hk
   unfold makes
   go_simp
   exact ⟨Ext.refl _,hg⟩
  refine wpM_norm (fun K hK=>?_); go_simp; refine hK _ ?_; clear hK K
  iterate 3 (refine wpM_p (fun K hK=>?_); go_simp; first | refine hK _ ?_ | refine ⟨(fun h=>by cases h),hK _ ?_⟩; clear hK K)
  refine wpM_x _ rfl (fun w' hw' hk=>?_) ?_
  ·have hg:=Pause_any n w'
   rw [HPN.out] at hg
   clear hk
   unfold makes
   go_simp
   exact ⟨Ext.refl _,hg⟩
  refine wpM_norm (fun K hK=>?_); go_simp; refine hK _ ?_; clear hK K
  iterate 4 (refine wpM_p (fun K hK=>?_); go_simp; first | refine hK _ ?_ | refine ⟨(fun h=>by cases h),hK _ ?_⟩; clear hK K)
  refine wpM_nil ?_
  intro w6 e6 _
  replace B_b7:=zbx B_b7 e6
  replace B_b9:=zbx B_b9 e6
  replace B_b11:=zbx B_b11 e6
  replace H:=Lib.hid (H.out.ext e6)
  replace X1:=Lib.hid (X1.out.ext e6)
  replace X2:=Lib.hid (X2.out.ext e6)
  replace EW:=Lib.hid (EW.out.trans e6)
  clear e6
  go_wp2
  go_ret
  exact ⟨rfl,EW.out⟩
 obtain rfl : pn = n:=by have:=HPW.out; rw [if_neg hn1,if_neg hn3] at this; exact this
 go_wp2_with fail
 refine wp_region_mono [none,none,none,none,none,none,some (.inl (.bool true)),none,none,none,some (.inr (McAt (tickM mk))),none,some (.inr (McAt (tickM mk))),some (.inl (.bool true)),none,none,none,some (.inr (McAt mk)),none,some (.inl (.bool true)),none,none,none,some (.inl (I pn)),none,none,none,none] (by kernel_rfl) (by kernel_rfl) ?_ ?_
 ·exact ⟨trivial,trivial,trivial,trivial,trivial,trivial,trivial,trivial,trivial,trivial,fun _ _ _ he h=>h.ext he,trivial,fun _ _ _ he h=>h.ext he,trivial,trivial,trivial,trivial,fun _ _ _ he h=>h.ext he,trivial,trivial,trivial,trivial,trivial,trivial,trivial,trivial,trivial,trivial,trivial⟩
 iterate 4 (refine wpM_p (fun K hK=>?_); go_simp; first | refine hK _ ?_ | refine ⟨(fun h=>by cases h),hK _ ?_⟩; clear hK K)
 refine wpM_q (.agg #[.slice ca1 XM.store.cells.length cc1,.slice ua1 XM.store.undo.length uc1,.slice aa1 XM.store.answers.length ac1,.slice pa1 XM.store.past.length pc1,I XM.server.gen,.slice xa1 XM.server.box.length xc1,.bool XM.server.busy,I XM.server.now.client,I XM.server.now.token,I XM.server.now.call.kind,I XM.server.now.call.name,I XM.server.now.call.other,I XM.server.now.call.n,.slice la1 XM.server.plan.length lc1,I XM.server.says.err,I XM.server.says.n,.bool XM.up,I XM.pause,I XM.falls,.slice ka1 XM.clients.length kc1]) rfl (fun w' hw'=>run_loadM 43 (.tmp 9) rfl b9 0 rfl (blk_ext B_b9.out hw') [.slice ca1 XM.store.cells.length cc1,.slice ua1 XM.store.undo.length uc1,.slice aa1 XM.store.answers.length ac1,.slice pa1 XM.store.past.length pc1,I XM.server.gen,.slice xa1 XM.server.box.length xc1,.bool XM.server.busy,I XM.server.now.client,I XM.server.now.token,I XM.server.now.call.kind,I XM.server.now.call.name,I XM.server.now.call.other,I XM.server.now.call.n,.slice la1 XM.server.plan.length lc1,I XM.server.says.err,I XM.server.says.n,.bool XM.up,I XM.pause,I XM.falls,.slice ka1 XM.clients.length kc1] rfl Try.underlying43 (by kernel_rfl)) ?_
 refine wpM_norm (fun K hK=>?_); go_simp; refine hK _ ?_; clear hK K
 refine wpM_q (.agg #[.slice ca2 XM.store.cells.length cc2,.slice ua2 XM.store.undo.length uc2,.slice aa2 XM.store.answers.length ac2,.slice pa2 XM.store.past.length pc2,I XM.server.gen,.slice xa2 XM.server.box.length xc2,.bool XM.server.busy,I XM.server.now.client,I XM.server.now.token,I XM.server.now.call.kind,I XM.server.now.call.name,I XM.server.now.call.other,I XM.server.now.call.n,.slice la2 XM.server.plan.length lc2,I XM.server.says.err,I XM.server.says.n,.bool XM.up,I XM.pause,I XM.falls,.slice ka2 XM.clients.length kc2]) rfl (fun w' hw'=>run_loadM 43 (.tmp 11) rfl b11 0 rfl (blk_ext B_b11.out hw') [.slice ca2 XM.store.cells.length cc2,.slice ua2 XM.store.undo.length uc2,.slice aa2 XM.store.answers.length ac2,.slice pa2 XM.store.past.length pc2,I XM.server.gen,.slice xa2 XM.server.box.length xc2,.bool XM.server.busy,I XM.server.now.client,I XM.server.now.token,I XM.server.now.call.kind,I XM.server.now.call.name,I XM.server.now.call.other,I XM.server.now.call.n,.slice la2 XM.server.plan.length lc2,I XM.server.says.err,I XM.server.says.n,.bool XM.up,I XM.pause,I XM.falls,.slice ka2 XM.clients.length kc2] rfl Try.underlying43 (by kernel_rfl)) ?_
 refine wpM_norm (fun K hK=>?_); go_simp; refine hK _ ?_; clear hK K
 refine wpM_x _ rfl (fun w' hw' hk=>?_) ?_
 ·have hg:=gives_exts (sameMachine_eq XM _ _ _ _ _ _ _ _ _ _ _ _ _ _ w' (X1.out.ext hw') (X2.out.ext hw'))
  clear hk
  unfold makes
  go_simp
  exact ⟨Ext.refl _,hg⟩
 refine wpM_norm (fun K hK=>?_); go_simp; refine hK _ ?_; clear hK K
 iterate 2 (refine wpM_p (fun K hK=>?_); go_simp; first | refine hK _ ?_ | refine ⟨(fun h=>by cases h),hK _ ?_⟩; clear hK K)
 refine wpM_q (.agg #[.slice ca mk.store.cells.length cc,.slice ua mk.store.undo.length uc,.slice aa mk.store.answers.length ac,.slice pa mk.store.past.length pc,I mk.server.gen,.slice xa mk.server.box.length xc,.bool mk.server.busy,I mk.server.now.client,I mk.server.now.token,I mk.server.now.call.kind,I mk.server.now.call.name,I mk.server.now.call.other,I mk.server.now.call.n,.slice la mk.server.plan.length lc,I mk.server.says.err,I mk.server.says.n,.bool mk.up,I mk.pause,I mk.falls,.slice ka mk.clients.length kc]) rfl (fun w' hw'=>run_loadM 43 (.tmp 7) rfl b7 0 rfl (blk_ext B_b7.out hw') [.slice ca mk.store.cells.length cc,.slice ua mk.store.undo.length uc,.slice aa mk.store.answers.length ac,.slice pa mk.store.past.length pc,I mk.server.gen,.slice xa mk.server.box.length xc,.bool mk.server.busy,I mk.server.now.client,I mk.server.now.token,I mk.server.now.call.kind,I mk.server.now.call.name,I mk.server.now.call.other,I mk.server.now.call.n,.slice la mk.server.plan.length lc,I mk.server.says.err,I mk.server.says.n,.bool mk.up,I mk.pause,I mk.falls,.slice ka mk.clients.length kc] rfl Try.underlying43 (by kernel_rfl)) ?_
 refine wpM_norm (fun K hK=>?_); go_simp; refine hK _ ?_; clear hK K
 refine wpM_l _ rfl (fun w' hw' hk=>?_) (fun v48=>?_)
 ·have hg:=mcAt_of (TickG_keeps mk _ _ _ _ _ _ _ w' _ (H.out.ext hw') (GD.out.small (by decide)) GD.out.gen GD.out.down)
  clear hk
  unfold makes
  go_simp
  exact ⟨Ext.refl _,hg⟩
 refine wpM_norm (fun K hK=>?_); go_simp; refine hK _ ?_; clear hK K
 refine wpM_q (.agg #[.slice ca mk.store.cells.length cc,.slice ua mk.store.undo.length uc,.slice aa mk.store.answers.length ac,.slice pa mk.store.past.length pc,I mk.server.gen,.slice xa mk.server.box.length xc,.bool mk.server.busy,I mk.server.now.client,I mk.server.now.token,I mk.server.now.call.kind,I mk.server.now.call.name,I mk.server.now.call.other,I mk.server.now.call.n,.slice la mk.server.plan.length lc,I mk.server.says.err,I mk.server.says.n,.bool mk.up,I mk.pause,I mk.falls,.slice ka mk.clients.length kc]) rfl (fun w' hw'=>run_loadM 43 (.tmp 7) rfl b7 0 rfl (blk_ext B_b7.out hw') [.slice ca mk.store.cells.length cc,.slice ua mk.store.undo.length uc,.slice aa mk.store.answers.length ac,.slice pa mk.store.past.length pc,I mk.server.gen,.slice xa mk.server.box.length xc,.bool mk.server.busy,I mk.server.now.client,I mk.server.now.token,I mk.server.now.call.kind,I mk.server.now.call.name,I mk.server.now.call.other,I mk.server.now.call.n,.slice la mk.server.plan.length lc,I mk.server.says.err,I mk.server.says.n,.bool mk.up,I mk.pause,I mk.falls,.slice ka mk.clients.length kc] rfl Try.underlying43 (by kernel_rfl)) ?_
 refine wpM_norm (fun K hK=>?_); go_simp; refine hK _ ?_; clear hK K
 refine wpM_l _ rfl (fun w' hw' hk=>?_) (fun v50=>?_)
 ·have hg:=mcAt_of (refTick_keeps mk _ _ _ _ _ _ _ w' _ (H.out.ext hw') GD.out.cells GD.out.gen GD.out.pause)
  clear hk
  unfold makes
  go_simp
  exact ⟨Ext.refl _,hg⟩
 refine wpM_norm (fun K hK=>?_); go_simp; refine hK _ ?_; clear hK K
 refine wpM_x _ rfl (fun w' hw' hk=>?_) ?_
 ·obtain ⟨_,_,_,_,_,_,_,rfl,q1⟩ : McAt (tickM mk) v48 w':=hk 48 (by decide)
  obtain ⟨_,_,_,_,_,_,_,rfl,q2⟩ : McAt (tickM mk) v50 w':=hk 50 (by decide)
  have hg:=gives_exts (sameMachine_eq (tickM mk) _ _ _ _ _ _ _ _ _ _ _ _ _ _ w' q1 q2)
  clear hk
  unfold makes
  go_simp
  exact ⟨Ext.refl _,hg⟩
 refine wpM_norm (fun K hK=>?_); go_simp; refine hK _ ?_; clear hK K
 iterate 2 (refine wpM_p (fun K hK=>?_); go_simp; first | refine hK _ ?_ | refine ⟨(fun h=>by cases h),hK _ ?_⟩; clear hK K)
 refine wpM_q (.agg #[.slice ca mk.store.cells.length cc,.slice ua mk.store.undo.length uc,.slice aa mk.store.answers.length ac,.slice pa mk.store.past.length pc,I mk.server.gen,.slice xa mk.server.box.length xc,.bool mk.server.busy,I mk.server.now.client,I mk.server.now.token,I mk.server.now.call.kind,I mk.server.now.call.name,I mk.server.now.call.other,I mk.server.now.call.n,.slice la mk.server.plan.length lc,I mk.server.says.err,I mk.server.says.n,.bool mk.up,I mk.pause,I mk.falls,.slice ka mk.clients.length kc]) rfl (fun w' hw'=>run_loadM 43 (.tmp 7) rfl b7 0 rfl (blk_ext B_b7.out hw') [.slice ca mk.store.cells.length cc,.slice ua mk.store.undo.length uc,.slice aa mk.store.answers.length ac,.slice pa mk.store.past.length pc,I mk.server.gen,.slice xa mk.server.box.length xc,.bool mk.server.busy,I mk.server.now.client,I mk.server.now.token,I mk.server.now.call.kind,I mk.server.now.call.name,I mk.server.now.call.other,I mk.server.now.call.n,.slice la mk.server.plan.length lc,I mk.server.says.err,I mk.server.says.n,.bool mk.up,I mk.pause,I mk.falls,.slice ka mk.clients.length kc] rfl Try.underlying43 (by kernel_rfl)) ?_
 refine wpM_norm (fun K hK=>?_); go_simp; refine hK _ ?_; clear hK K
 refine wpM_l _ rfl (fun w' hw' hk=>?_) (fun v55=>?_)
 ·have hg:=mcAt_of (OwnM_keeps mk _ _ _ _ _ _ _ w' _ (H.out.ext hw') (GD.out.small (by decide)))
  clear hk
  unfold makes
  go_simp
  exact ⟨Ext.refl _,hg⟩
 refine wpM_norm (fun K hK=>?_); go_simp; refine hK _ ?_; clear hK K
 refine wpM_q (.agg #[.slice ca mk.store.cells.length cc,.slice ua mk.store.undo.length uc,.slice aa mk.store.answers.length ac,.slice pa mk.store.past.length pc,I mk.server.gen,.slice xa mk.server.box.length xc,.bool mk.server.busy,I mk.server.now.client,I mk.server.now.token,I mk.server.now.call.kind,I mk.server.now.call.name,I mk.server.now.call.other,I mk.server.now.call.n,.slice la mk.server.plan.length lc,I mk.server.says.err,I mk.server.says.n,.bool mk.up,I mk.pause,I mk.falls,.slice ka mk.clients.length kc]) rfl (fun w' hw'=>run_loadM 43 (.tmp 7) rfl b7 0 rfl (blk_ext B_b7.out hw') [.slice ca mk.store.cells.length cc,.slice ua mk.store.undo.length uc,.slice aa mk.store.answers.length ac,.slice pa mk.store.past.length pc,I mk.server.gen,.slice xa mk.server.box.length xc,.bool mk.server.busy,I mk.server.now.client,I mk.server.now.token,I mk.server.now.call.kind,I mk.server.now.call.name,I mk.server.now.call.other,I mk.server.now.call.n,.slice la mk.server.plan.length lc,I mk.server.says.err,I mk.server.says.n,.bool mk.up,I mk.pause,I mk.falls,.slice ka mk.clients.length kc] rfl Try.underlying43 (by kernel_rfl)) ?_
 refine wpM_norm (fun K hK=>?_); go_simp; refine hK _ ?_; clear hK K
 refine wpM_x _ rfl (fun w' hw' hk=>?_) ?_
 ·obtain ⟨_,_,_,_,_,_,_,rfl,q1⟩ : McAt mk v55 w':=hk 55 (by decide)
  have hg:=gives_exts (sameMachine_eq mk _ _ _ _ _ _ _ _ _ _ _ _ _ _ w' q1 (H.out.ext hw'))
  clear hk
  unfold makes
  go_simp
  exact ⟨Ext.refl _,hg⟩
 refine wpM_norm (fun K hK=>?_); go_simp; refine hK _ ?_; clear hK K
 iterate 3 (refine wpM_p (fun K hK=>?_); go_simp; first | refine hK _ ?_ | refine ⟨(fun h=>by cases h),hK _ ?_⟩; clear hK K)
 refine wpM_x _ rfl (fun w' hw' hk=>?_) ?_
 ·have hg:=Pause_any pn w'
  rw [HPN.out] at hg
  clear hk
  unfold makes
  go_simp
  exact ⟨Ext.refl _,hg⟩
 refine wpM_norm (fun K hK=>?_); go_simp; refine hK _ ?_; clear hK K
 iterate 4 (refine wpM_p (fun K hK=>?_); go_simp; first | refine hK _ ?_ | refine ⟨(fun h=>by cases h),hK _ ?_⟩; clear hK K)
 refine wpM_nil ?_
 intro w6 e6 _
 replace B_b7:=zbx B_b7 e6
 replace B_b9:=zbx B_b9 e6
 replace B_b11:=zbx B_b11 e6
 replace H:=Lib.hid (H.out.ext e6)
 replace X1:=Lib.hid (X1.out.ext e6)
 replace X2:=Lib.hid (X2.out.ext e6)
 replace EW:=Lib.hid (EW.out.trans e6)
 clear e6
 go_wp2
 go_ret
 exact ⟨rfl,EW.out⟩

end Go.Proofs.Ytdmipnnfoolelad
