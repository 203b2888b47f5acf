/- Texts of the proof, merged: G8. -/
import Derived.Test.YtdmipnnfooleladKR
import Derived.Test.YtdmipnnfooleladKP

namespace Go.Proofs.Ytdmipnnfoolelad
open Go.RowKit Go.Mk

set_option maxRecDepth 100000 in
set_option maxHeartbeats 8000000 in
theorem GuardUp_any (v0 v1 : Value) (l : List (List Cl)) (steps : List (Int × Int)) (w : World) (h0 : RowOf 1 elCls w v0 l) (h1 : Writes w v1 steps) :
  Gives Try.prog 5 #[v0,v1] w fun r _=>r = .bool true:=by
 refine gives_exts ?_
 have HV:=Lib.hid h0
 have HSTP:=Lib.hid h1
 obtain ⟨za,zc,rfl⟩:=rowOf_slice h0
 obtain ⟨ta,tc,rfl⟩:=row_slice h1
 clear h0 h1
 have EW:=Lib.hid (Ext.refl w)
 go_enter Try.func5,Try.ntmps5
 go_wp2_with fail
 refine (aliveGuard_any w).to fun r wl el hr=>?_
 subst hr
 replace EW:=Lib.hid (EW.out.trans el)
 clear el
 go_wp2_with fail
 refine (refRight_any _ l wl (HV.out.ext monoCls' EW.out)).mono ?_
 rintro e wr0 ⟨bR,rfl,hbR,e0⟩
 replace EW:=Lib.hid (EW.out.trans e0)
 clear e0
 cases bR
 case false =>
  go_wp2
  go_ret
  exact ⟨rfl,EW.out⟩
 have HRL:=Lib.hid (hbR.1 rfl)
 clear hbR
 go_wp2_with fail
 refine (refPlay_keeps _ _ l steps wr0 (fun _=>True) HRL.out (Rd.widen (Rd.of (rowOf_heap heapCls _ _) (HV.out.ext monoCls' EW.out)) (fun _ _ _=>trivial)) (HSTP.out.ext EW.out)).to fun r wp ep hr=>?_
 obtain ⟨cs,es,rfl,hm,hes⟩:=rd_play hr
 obtain ⟨mk,hmk⟩ : ∃ mk,playM (newMc l) (steps.take 400) = mk:=⟨_,rfl⟩
 have hgd:=gd_play HRL.out steps
 rw [hmk] at hm hgd
 obtain ⟨c,u,a,p,box,plan,cl,rfl,hM⟩:=rd_mc hm
 obtain ⟨ca,cc,ua,uc,aa,ac,pa,pc,xa,xc,la,lc,ka,kc,rfl,rfl,rfl,rfl,rfl,rfl,rfl⟩:=hM.slices
 obtain ⟨B,HB0⟩ : ∃ B : Nat → Prop,Hid (∀ k,B k ↔ True):=⟨_,fun _=>Iff.rfl⟩
 have H:=Lib.hid (hM.widen (B:=B) (fun k _ _=>(HB0.out k).2 trivial))
 have GD:=Lib.hid hgd
 obtain ⟨esa,esc,rfl⟩:=row_slice hes.out
 clear hM hm hr hes hmk hgd HV HSTP
 replace EW:=Lib.hid (EW.out.trans ep)
 clear ep
 go_wp2_with ((with_reducible refine zst (L:=[43,40,30,67]) ?_ ?_); exact rfl)
 unfold Hid
 refine wpList_allocB rfl 43 #[.slice none 0 0,.slice none 0 0,.slice none 0 0,.slice none 0 0,I 0,.slice none 0 0,.bool false,I 0,I 0,I 0,I 0,I 0,I 0,.slice none 0 0,I 0,I 0,.bool false,I 0,I 0,.slice none 0 0] (by kernel_rfl) (fun b5 w1_ M1=>?_)
 obtain ⟨B1,HB1⟩ : ∃ X : Nat → Prop,Hid (∀ k,X k ↔ (B k ∧ k ≠ b5)):=⟨_,fun _=>Iff.rfl⟩
 replace H:=Lib.hid (H.out.widen (B:=B1) (fun k hk h=>(HB1.out k).2 ⟨h,by have q2:=M1.out.at_; omega⟩))
 have N_b5 : Hid (¬ B1 b5):=fun h=>((HB1.out _).1 h).2 rfl
 have I_B1 : Hid (∀ k,B1 k → B k):=fun k h=>((HB1.out k).1 h).1
 have O_b5 : Hid (w.heap.size ≤ b5):=by unfold Hid; have q2:=M1.out.at_; have q3:=EW.out.size; omega
 have B_b5:=zmb M1
 replace H:=Lib.hid (H.out.ext M1.out.ext)
 replace EW:=zet EW M1
 go_wp2_with ((with_reducible refine zst (L:=[43,40,30,67]) ?_ ?_); exact rfl)
 unfold Hid
 refine wpList_storeW rfl 43 (.tmp 5) (.tmp 19) rfl b5 rfl [.slice ca mk.store.cells.length cc,.slice ua mk.store.undo.length uc,.slice aa mk.store.answers.length ac,.slice pa mk.store.past.length pc,I mk.server.gen,.slice xa mk.server.box.length xc,.bool mk.server.busy,I mk.server.now.client,I mk.server.now.token,I mk.server.now.call.kind,I mk.server.now.call.name,I mk.server.now.call.other,I mk.server.now.call.n,.slice la mk.server.plan.length lc,I mk.server.says.err,I mk.server.says.n,.bool mk.up,I mk.pause,I mk.falls,.slice ka mk.clients.length kc] (rfl) B_b5 rfl (by kernel_rfl) rfl (fun w2_ M2=>?_)
 replace B_b5:=zwb M2
 replace H:=Lib.hid (M2.out.rdM H.out N_b5.out)
 replace EW:=zwe M2 EW O_b5
 go_wp2_with ((with_reducible refine zst (L:=[43,40,30,67]) ?_ ?_); exact rfl)
 unfold Hid
 refine wpList_loadW rfl 43 (.tmp 5) rfl b5 rfl B_b5 Try.underlying43 (by kernel_rfl) (fun v22 H_v22=>?_)
 go_wp2_with fail
 rw [H_v22.out]
 clear H_v22
 obtain ⟨XM,xe,hfall⟩ : ∃ x y,fallM mk = (x,y):=⟨_,_,rfl⟩
 have HF:=Lib.hid hfall
 clear hfall
 obtain ⟨C,HC⟩ : ∃ X : Nat → Prop,Hid (∀ k,X k ↔ (B1 k ∨ w2_.heap.size ≤ k)):=⟨_,fun _=>Iff.rfl⟩
 replace H:=Lib.hid (H.out.widen (B:=C) fun k _ h=>(HC.out k).2 (.inl h))
 replace N_b5 : Hid (¬ C b5):=zgrG HC N_b5 B_b5
 refine (FallG_keeps mk _ _ _ _ _ _ _ w2_ C H.out (GD.out.small (by decide)) GD.out.falls.1).to fun r w2 e2 hr=>?_
 rw [HF.out] at hr
 obtain ⟨cs,rfl,hcs⟩:=rd_tupE hr
 obtain ⟨c1,u1,a1,p1,box1,plan1,cl1,rfl,hM⟩:=rd_mc hcs
 obtain ⟨ca1,cc1,ua1,uc1,aa1,ac1,pa1,pc1,xa1,xc1,la1,lc1,ka1,kc1,rfl,rfl,rfl,rfl,rfl,rfl,rfl⟩:=hM.slices
 have X1:=Lib.hid (hM.widen (B:=C) fun k _ h=>(HC.out k).2 (by rcases h with h | h; exact h.elim; exact .inr h))
 clear hr hcs hM
 replace B_b5:=zbx B_b5 e2
 replace H:=Lib.hid (H.out.ext e2)
 replace EW:=Lib.hid (EW.out.trans e2)
 clear e2
 go_wp2_with ((with_reducible refine zst (L:=[43,40,30,67]) ?_ ?_); exact rfl)
 unfold Hid
 refine wpList_allocB rfl 43 #[.slice none 0 0,.slice none 0 0,.slice none 0 0,.slice none 0 0,I 0,.slice none 0 0,.bool false,I 0,I 0,I 0,I 0,I 0,I 0,.slice none 0 0,I 0,I 0,.bool false,I 0,I 0,.slice none 0 0] (by kernel_rfl) (fun b7 w3_ M3=>?_)
 have D_b5_b7:=zld B_b5 M3
 obtain ⟨C1,HC1⟩ : ∃ X : Nat → Prop,Hid (∀ k,X k ↔ (C k ∧ k ≠ b7)):=⟨_,fun _=>Iff.rfl⟩
 replace H:=Lib.hid (H.out.widen (B:=C1) (fun k hk h=>(HC1.out k).2 ⟨h,by have q2:=M3.out.at_; omega⟩))
 replace X1:=Lib.hid (X1.out.widen (B:=C1) (fun k hk h=>(HC1.out k).2 ⟨h,by have q2:=M3.out.at_; omega⟩))
 replace N_b5:=znw HC1 N_b5
 have N_b7 : Hid (¬ C1 b7):=fun h=>((HC1.out _).1 h).2 rfl
 have I_C1 : Hid (∀ k,C1 k → C k):=fun k h=>((HC1.out k).1 h).1
 have O_b7 : Hid (w.heap.size ≤ b7):=by unfold Hid; have q2:=M3.out.at_; have q3:=EW.out.size; omega
 replace B_b5:=zmo M3 B_b5
 have B_b7:=zmb M3
 replace H:=Lib.hid (H.out.ext M3.out.ext)
 replace X1:=Lib.hid (X1.out.ext M3.out.ext)
 replace EW:=zet EW M3
 go_wp2_with ((with_reducible refine zst (L:=[43,40,30,67]) ?_ ?_); exact rfl)
 unfold Hid
 refine wpList_storeW rfl 43 (.tmp 7) (.tmp 24) rfl b7 rfl [.slice ca1 XM.store.cells.length cc1,.slice ua1 XM.store.undo.length uc1,.slice aa1 XM.store.answers.length ac1,.slice pa1 XM.store.past.length pc1,I XM.server.gen,.slice xa1 XM.server.box.length xc1,.bool XM.server.busy,I XM.server.now.client,I XM.server.now.token,I XM.server.now.call.kind,I XM.server.now.call.name,I XM.server.now.call.other,I XM.server.now.call.n,.slice la1 XM.server.plan.length lc1,I XM.server.says.err,I XM.server.says.n,.bool XM.up,I XM.pause,I XM.falls,.slice ka1 XM.clients.length kc1] (rfl) B_b7 rfl (by kernel_rfl) rfl (fun w4_ M4=>?_)
 replace B_b5:=zwl M4 B_b5 D_b5_b7
 replace B_b7:=zwb M4
 replace H:=Lib.hid (M4.out.rdM H.out N_b7.out)
 replace X1:=Lib.hid (M4.out.rdM X1.out N_b7.out)
 replace EW:=zwe M4 EW O_b7
 by_cases hxe : xe = 0
 case neg =>
  have hXM : XM = mk:=by have q:=fall_no (m:=mk) (by rw [HF.out]; exact hxe); rw [HF.out] at q; exact q
  have HXM:=Lib.hid hXM
  clear hXM
  go_wp2_with ((with_reducible refine zst (L:=[43,40,30,67]) ?_ ?_); exact rfl)
  unfold Hid
  clear hxe
  refine wpList_loadW rfl 43 (.tmp 7) rfl b7 rfl B_b7 Try.underlying43 (by kernel_rfl) (fun v28 H_v28=>?_)
  go_wp2_with ((with_reducible refine zst (L:=[43,40,30,67]) ?_ ?_); exact rfl)
  unfold Hid
  refine wpList_loadW rfl 43 (.tmp 5) rfl b5 rfl B_b5 Try.underlying43 (by kernel_rfl) (fun v29 H_v29=>?_)
  go_wp2_with fail
  rw [H_v28.out,H_v29.out]
  clear H_v28 H_v29
  have hsm : Calls Try.prog 10 #[.agg #[.slice ca1 XM.store.cells.length cc1,.slice ua1 XM.store.undo.length uc1,.slice aa1 XM.store.answers.length ac1,.slice pa1 XM.store.past.length pc1,I XM.server.gen,.slice xa1 XM.server.box.length xc1,.bool XM.server.busy,I XM.server.now.client,I XM.server.now.token,I XM.server.now.call.kind,I XM.server.now.call.name,I XM.server.now.call.other,I XM.server.now.call.n,.slice la1 XM.server.plan.length lc1,I XM.server.says.err,I XM.server.says.n,.bool XM.up,I XM.pause,I XM.falls,.slice ka1 XM.clients.length kc1],.agg #[.slice ca mk.store.cells.length cc,.slice ua mk.store.undo.length uc,.slice aa mk.store.answers.length ac,.slice pa mk.store.past.length pc,I mk.server.gen,.slice xa mk.server.box.length xc,.bool mk.server.busy,I mk.server.now.client,I mk.server.now.token,I mk.server.now.call.kind,I mk.server.now.call.name,I mk.server.now.call.other,I mk.server.now.call.n,.slice la mk.server.plan.length lc,I mk.server.says.err,I mk.server.says.n,.bool mk.up,I mk.pause,I mk.falls,.slice ka mk.clients.length kc]] w4_ fun e w'=>e = .returned (.bool true) ∧ Ext w4_ w':=by
   have q:=HXM.out
   subst q
   exact sameMachine_eq _ _ _ _ _ _ _ _ _ _ _ _ _ _ _ w4_ X1.out H.out
  refine Calls.exts hsm (fun w6 e6=>?_)
  clear hsm
  replace B_b5:=zbx B_b5 e6
  replace B_b7:=zbx B_b7 e6
  replace H:=Lib.hid (H.out.ext e6)
  replace X1:=Lib.hid (X1.out.ext e6)
  replace EW:=Lib.hid (EW.out.trans e6)
  clear e6
  go_wp2
  go_ret
  exact ⟨rfl,EW.out⟩
 obtain ⟨hu0,hf6,hX⟩:=fall_ok (m:=mk) (by rw [HF.out]; exact hxe)
 rw [HF.out] at hX
 replace hX : XM = _:=hX
 have hpz:=pause_of (mk.falls + 1)
 have hgx:=gd_fall GD.out
 rw [HF.out] at hgx
 have GX : Hid (Gd l XM 401):=hgx
 obtain ⟨pz,hpe⟩ : ∃ p : Nat,pauseOf (mk.falls + 1) = (p : Int):=⟨(pauseOf (mk.falls + 1)).toNat,by omega⟩
 rw [hpe] at hpz hX
 have HPE:=Lib.hid hpe
 have HPZ : Hid (1 ≤ pz ∧ pz ≤ 3):=by unfold Hid; omega
 have HXF : Hid (XM.falls = mk.falls + 1):=by unfold Hid; rw [hX]
 have HXP : Hid (XM.pause = (pz : Int)):=by unfold Hid; rw [hX]
 have HXU : Hid (XM.up = false):=by unfold Hid; rw [hX]
 have HXS : Hid (XM.store = mk.store):=by unfold Hid; rw [hX]
 have HXG : Hid (XM.server.gen = mk.server.gen):=by unfold Hid; rw [hX]; rfl
 have HF6 : Hid (0 ≤ mk.falls ∧ mk.falls < 6):=⟨GD.out.falls.1,hf6⟩
 clear hu0 hf6 hX hpz hgx hpe
 have a18 : w4_.cell? ⟨b7,18,none⟩ = some (I (mk.falls + 1)):=by have q:=cell_of (i:=18) B_b7.out rfl; rw [HXF.out] at q; exact q
 have a17 : w4_.cell? ⟨b7,17,none⟩ = some (I (pz : Int)):=by have q:=cell_of (i:=17) B_b7.out rfl; rw [HXP.out] at q; exact q
 have m18:=cell_of (i:=18) B_b5.out rfl
 have hwr : IntKind.i64.wrap (mk.falls + 1) = mk.falls + 1:=by have q:=HF6.out; rw [IntKind.wrap_i64]; omega
 go_wp2_with fail
 refine wp_region_mono [none,none,none,none,none,none,none,none,none,none,none,some (.inl (I (pz : Int))),none,none,none,none,none,none,none,some (.inl (.bool true)),none,none] (by kernel_rfl) (by kernel_rfl) ?_ ?_
 ·exact ⟨trivial,trivial,trivial,trivial,trivial,trivial,trivial,trivial,trivial,trivial,trivial,trivial,trivial,trivial,trivial,trivial,trivial,trivial,trivial,trivial,trivial,trivial,trivial⟩
 iterate 1 (refine wpM_p (fun K hK=>?_); go_simp; first | refine hK _ ?_ | refine ⟨(fun h=>by cases h),hK _ ?_⟩; clear hK K)
 refine wpM_q (I (mk.falls + 1)) rfl (fun w' hw'=>by have:=hw'.cell a18; go_simp) ?_
 refine wpM_norm (fun K hK=>?_); go_simp; refine hK _ ?_; clear hK K
 iterate 1 (refine wpM_p (fun K hK=>?_); go_simp; first | refine hK _ ?_ | refine ⟨(fun h=>by cases h),hK _ ?_⟩; clear hK K)
 refine wpM_q (I mk.falls) rfl (fun w' hw'=>by have:=hw'.cell m18; go_simp) ?_
 refine wpM_norm (fun K hK=>?_); go_simp; refine hK _ ?_; clear hK K
 iterate 4 (refine wpM_p (fun K hK=>?_); go_simp; first | refine hK _ ?_ | refine ⟨(fun h=>by cases h),hK _ ?_⟩; clear hK K)
 refine wpM_q (I (pz : Int)) rfl (fun w' hw'=>by have:=hw'.cell a17; go_simp) ?_
 refine wpM_norm (fun K hK=>?_); go_simp; refine hK _ ?_; clear hK K
 iterate 1 (refine wpM_p (fun K hK=>?_); go_simp; first | refine hK _ ?_ | refine ⟨(fun h=>by cases h),hK _ ?_⟩; clear hK K)
 refine wpM_q (I (mk.falls + 1)) rfl (fun w' hw'=>by have:=hw'.cell a18; go_simp) ?_
 refine wpM_norm (fun K hK=>?_); go_simp; refine hK _ ?_; clear hK K
 refine wpM_x _ rfl (fun w' hw' hk=>?_) ?_
 ·have hg:=Pause_any (mk.falls + 1) w'
  rw [HPE.out] at hg
  clear hk
  unfold makes
  go_simp
  exact ⟨Ext.refl _,hg⟩
 refine wpM_norm (fun K hK=>?_); go_simp; refine hK _ ?_; clear hK K
 iterate 4 (refine wpM_p (fun K hK=>?_); go_simp; first | refine hK _ ?_ | refine ⟨(fun h=>by cases h),hK _ ?_⟩; clear hK K)
 refine wpM_q (.agg #[.slice ca1 XM.store.cells.length cc1,.slice ua1 XM.store.undo.length uc1,.slice aa1 XM.store.answers.length ac1,.slice pa1 XM.store.past.length pc1]) rfl (fun w' hw'=>run_loadM 30 (.tmp 46) rfl b7 0 rfl (blk_ext B_b7.out hw') [.slice ca1 XM.store.cells.length cc1,.slice ua1 XM.store.undo.length uc1,.slice aa1 XM.store.answers.length ac1,.slice pa1 XM.store.past.length pc1] rfl Try.underlying30 (by kernel_rfl)) ?_
 refine wpM_norm (fun K hK=>?_); go_simp; refine hK _ ?_; clear hK K
 iterate 1 (refine wpM_p (fun K hK=>?_); go_simp; first | refine hK _ ?_ | refine ⟨(fun h=>by cases h),hK _ ?_⟩; clear hK K)
 refine wpM_q (.agg #[.slice ca mk.store.cells.length cc,.slice ua mk.store.undo.length uc,.slice aa mk.store.answers.length ac,.slice pa mk.store.past.length pc]) rfl (fun w' hw'=>run_loadM 30 (.tmp 48) rfl b5 0 rfl (blk_ext B_b5.out hw') [.slice ca mk.store.cells.length cc,.slice ua mk.store.undo.length uc,.slice aa mk.store.answers.length ac,.slice pa mk.store.past.length pc] rfl Try.underlying30 (by kernel_rfl)) ?_
 refine wpM_norm (fun K hK=>?_); go_simp; refine hK _ ?_; clear hK K
 refine wpM_x _ rfl (fun w' hw' hk=>?_) ?_
 ·have hg:=gives_exts (sameStore_eq _ _ _ _ _ _ _ _ XM.store w' ((st_rd X1.out.cells X1.out.undo X1.out.answers X1.out.past).ext hw').out (by rw [HXS.out]; exact ((st_rd H.out.cells H.out.undo H.out.answers H.out.past).ext hw').out))
  clear hk
  unfold makes
  go_simp
  exact ⟨Ext.refl _,hg⟩
 refine wpM_norm (fun K hK=>?_); go_simp; refine hK _ ?_; clear hK K
 iterate 2 (refine wpM_p (fun K hK=>?_); go_simp; first | refine hK _ ?_ | refine ⟨(fun h=>by cases h),hK _ ?_⟩; clear hK K)
 refine wpM_nil ?_
 intro w6 e6 _
 replace a17:=e6.cell a17
 clear a18 m18 hwr
 replace B_b5:=zbx B_b5 e6
 replace B_b7:=zbx B_b7 e6
 replace H:=Lib.hid (H.out.ext e6)
 replace X1:=Lib.hid (X1.out.ext e6)
 replace EW:=Lib.hid (EW.out.trans e6)
 clear e6
 go_wp2_with fail
 clear a17
 go_loopw [9,55] (fun v9 i wr=>∃ (k : Nat) (E : Nat → Prop) (x : Mc) (c' u' a' p' box' plan' cl' : Value),k ≤ pz ∧ i = I k ∧ x = ticks k XM ∧ Gd l x (401 + k) ∧ RdM E wr mk (.slice ca mk.store.cells.length cc) (.slice ua mk.store.undo.length uc) (.slice aa mk.store.answers.length ac) (.slice pa mk.store.past.length pc) (.slice xa mk.server.box.length xc) (.slice la mk.server.plan.length lc) (.slice ka mk.clients.length kc) ∧ RdM E wr x c' u' a' p' box' plan' cl' ∧ ¬ E b5 ∧ ¬ E b7 ∧ wr.heap[b5]? = some (.cells #[.slice ca mk.store.cells.length cc,.slice ua mk.store.undo.length uc,.slice aa mk.store.answers.length ac,.slice pa mk.store.past.length pc,I mk.server.gen,.slice xa mk.server.box.length xc,.bool mk.server.busy,I mk.server.now.client,I mk.server.now.token,I mk.server.now.call.kind,I mk.server.now.call.name,I mk.server.now.call.other,I mk.server.now.call.n,.slice la mk.server.plan.length lc,I mk.server.says.err,I mk.server.says.n,.bool mk.up,I mk.pause,I mk.falls,.slice ka mk.clients.length kc] 43 (0,0)) ∧ wr.heap[b7]? = some (.cells (cells20 x c' u' a' p' box' plan' cl').toArray 43 (0,0)) ∧ Ext w wr) (fun _ i _=>pz - (intOf i).toNat)
 case atStart=>exact ⟨0,C1,XM,_,_,_,_,_,_,_,Nat.zero_le _,rfl,rfl,GX.out,H.out,X1.out,N_b5.out,N_b7.out,B_b5.out,B_b7.out,EW.out⟩
 case round =>
  obtain ⟨k,E,x,c',u',a',p',box',plan',cl',hk,rfl,hxt,gx,hH,hX,n5,n7,hb5,hb7,hex⟩:=hrel
  clear B_b5 B_b7 H X1 N_b5 N_b7 EW GX
  obtain ⟨ca0,cc0,ua0,uc0,aa0,ac0,pa0,pc0,xa0,xc0,la0,lc0,ka0,kc0,rfl,rfl,rfl,rfl,rfl,rfl,rfl⟩:=hX.slices
  have H:=Lib.hid hH
  have X:=Lib.hid hX
  have GX:=Lib.hid gx
  have HXT:=Lib.hid hxt
  have N_b5:=Lib.hid n5
  have N_b7:=Lib.hid n7
  have B_b5:=Lib.hid hb5
  have B_b7 : Hid (wr.heap[b7]? = some (.cells #[.slice ca0 x.store.cells.length cc0,.slice ua0 x.store.undo.length uc0,.slice aa0 x.store.answers.length ac0,.slice pa0 x.store.past.length pc0,I x.server.gen,.slice xa0 x.server.box.length xc0,.bool x.server.busy,I x.server.now.client,I x.server.now.token,I x.server.now.call.kind,I x.server.now.call.name,I x.server.now.call.other,I x.server.now.call.n,.slice la0 x.server.plan.length lc0,I x.server.says.err,I x.server.says.n,.bool x.up,I x.pause,I x.falls,.slice ka0 x.clients.length kc0] 43 (0,0))):=hb7
  have EW:=Lib.hid hex
  clear hH hX gx hxt n5 n7 hb5 hb7 hex
  by_cases hlt : k < pz
  ·have HLT:=Lib.hid hlt
   have hxd : x = { XM with pause:=XM.pause - k }:=by rw [HXT.out,ticks_down HXU.out k (by rw [HXP.out]; omega)]
   have a16 : wr.cell? ⟨b7,16,none⟩ = some (.bool false):=by have q:=cell_of (i:=16) B_b7.out rfl; rw [show x.up = false by rw [hxd]; exact HXU.out] at q; exact q
   have a17 : wr.cell? ⟨b7,17,none⟩ = some (I ((pz : Int) - k)):=by have q:=cell_of (i:=17) B_b7.out rfl; rw [show x.pause = (pz : Int) - k by rw [hxd,← HXP.out]] at q; exact q
   have hli : (k : Int) < (pz : Int):=by omega
   have hp1 : ¬ ((pz : Int) - k < 1):=by omega
   have hk3 : ¬ ((3 : Int) < k):=by have q:=HPZ.out; omega
   clear hxd hlt hk
   go_wp2_with ((with_reducible refine zst (L:=[43,40,30,67]) ?_ ?_); exact rfl)
   unfold Hid
   clear hli hp1 hk3 a16 a17
   refine wpList_loadW rfl 43 (.tmp 7) rfl b7 rfl B_b7 Try.underlying43 (by kernel_rfl) (fun v69 H_v69=>?_)
   go_wp2_with fail
   rw [H_v69.out]
   clear H_v69
   obtain ⟨y,hy⟩ : ∃ y,tickM x = y:=⟨_,rfl⟩
   have HY:=Lib.hid hy
   clear hy
   obtain ⟨E1,HE1⟩ : ∃ X : Nat → Prop,Hid (∀ k,X k ↔ (E k ∨ wr.heap.size ≤ k)):=⟨_,fun _=>Iff.rfl⟩
   replace H:=Lib.hid (H.out.widen (B:=E1) fun k _ h=>(HE1.out k).2 (.inl h))
   replace X:=Lib.hid (X.out.widen (B:=E1) fun k _ h=>(HE1.out k).2 (.inl h))
   replace N_b5 : Hid (¬ E1 b5):=zgrG HE1 N_b5 B_b5
   replace N_b7 : Hid (¬ E1 b7):=zgrG HE1 N_b7 B_b7
   refine (TickG_keeps x _ _ _ _ _ _ _ wr E1 X.out (GX.out.small (by have:=HLT.out; have:=HPZ.out; omega)) GX.out.gen GX.out.down).to fun r w2 e2 hr=>?_
   rw [HY.out] at hr
   obtain ⟨cs,rfl,hcs⟩:=rd_agg hr
   obtain ⟨c1,u1,a1,p1,box1,plan1,cl1,rfl,hM⟩:=rd_mc hcs
   obtain ⟨ca2,cc2,ua2,uc2,aa2,ac2,pa2,pc2,xa2,xc2,la2,lc2,ka2,kc2,rfl,rfl,rfl,rfl,rfl,rfl,rfl⟩:=hM.slices
   have Y:=Lib.hid (hM.widen (B:=E1) fun k _ h=>(HE1.out k).2 (by rcases h with h | h; exact h.elim; exact .inr h))
   clear hr hcs hM
   replace B_b5:=zbx B_b5 e2
   replace B_b7:=zbx B_b7 e2
   replace H:=Lib.hid (H.out.ext e2)
   replace X:=Lib.hid (X.out.ext e2)
   replace EW:=Lib.hid (EW.out.trans e2)
   clear e2
   go_wp2_with ((with_reducible refine zst (L:=[43,40,30,67]) ?_ ?_); exact rfl)
   unfold Hid
   refine wpList_storeW rfl 43 (.tmp 7) (.tmp 70) rfl b7 rfl [.slice ca2 y.store.cells.length cc2,.slice ua2 y.store.undo.length uc2,.slice aa2 y.store.answers.length ac2,.slice pa2 y.store.past.length pc2,I y.server.gen,.slice xa2 y.server.box.length xc2,.bool y.server.busy,I y.server.now.client,I y.server.now.token,I y.server.now.call.kind,I y.server.now.call.name,I y.server.now.call.other,I y.server.now.call.n,.slice la2 y.server.plan.length lc2,I y.server.says.err,I y.server.says.n,.bool y.up,I y.pause,I y.falls,.slice ka2 y.clients.length kc2] (rfl) B_b7 rfl (by kernel_rfl) rfl (fun w101_ M101=>?_)
   replace B_b5:=zwl M101 B_b5 D_b5_b7
   replace B_b7:=zwb M101
   replace H:=Lib.hid (M101.out.rdM H.out N_b7.out)
   replace X:=Lib.hid (M101.out.rdM X.out N_b7.out)
   replace Y:=Lib.hid (M101.out.rdM Y.out N_b7.out)
   replace EW:=zwe M101 EW O_b7
   have hkb : k < 1000:=by have q:=HPZ.out; have q2:=HLT.out; omega
   go_wp2
   go_roundw
   case rel =>
    refine ⟨k + 1,E1,y,_,_,_,_,_,_,_,HLT.out,by go_num,?_,?_,H.out,Y.out,N_b5.out,N_b7.out,B_b5.out,B_b7.out,EW.out⟩
    ·rw [← HY.out,HXT.out]; rfl
    ·have q:=gd_tick GX.out
     rw [HY.out] at q
     exact q
   case measure=>have:=HLT.out; simp [intOf]; omega
  ·obtain rfl : pz = k:=by omega
   have hxu:=HXT.out.trans (ticks_up HXU.out pz HXP.out.symm (by rw [HXP.out]; have q:=HPZ.out; omega))
   have HU : Hid (x.up = true):=by unfold Hid; rw [hxu]
   have HP0 : Hid (x.pause = 0):=by unfold Hid; rw [hxu]
   have HSV : Hid (x.server = idleSv (mk.server.gen + 1) []):=by unfold Hid; rw [hxu,← HXG.out]
   have HST : Hid (x.store = backSt mk.store):=by unfold Hid; rw [hxu,← HXS.out]
   have K3 : Hid (pz ≤ 3):=HPZ.out.2
   have a16 : wr.cell? ⟨b7,16,none⟩ = some (.bool true):=by have q:=cell_of (i:=16) B_b7.out rfl; rw [HU.out] at q; exact q
   have a17 : wr.cell? ⟨b7,17,none⟩ = some (I 0):=by have q:=cell_of (i:=17) B_b7.out rfl; rw [HP0.out] at q; exact q
   clear hxu hlt hk
   have m4:=cell_of (i:=4) B_b5.out rfl
   have hwr : IntKind.i64.wrap (mk.server.gen + 1) = mk.server.gen + 1:=by have q:=GD.out.gen; rw [IntKind.wrap_i64]; omega
   go_wp2_with fail
   refine wp_region_mono [none,none,none,none,none,none,none,none,none,none,none,none,none,none,none,some (.inl (.bool true)),none,none,none,none,none,none,some (.inr (StAt (backSt mk.store))),some (.inl (.bool true)),none,none,none,some (.inr (McAt x)),none,some (.inl (.bool true)),none,none] (by kernel_rfl) (by kernel_rfl) ?_ ?_
   ·exact ⟨trivial,trivial,trivial,trivial,trivial,trivial,trivial,trivial,trivial,trivial,trivial,trivial,trivial,trivial,trivial,trivial,trivial,trivial,trivial,trivial,trivial,trivial,fun _ _ _ he h=>h.ext he,trivial,trivial,trivial,trivial,fun _ _ _ he h=>h.ext he,trivial,trivial,trivial,trivial,trivial⟩
   iterate 1 (refine wpM_p (fun K hK=>?_); go_simp; first | refine hK _ ?_ | refine ⟨(fun h=>by cases h),hK _ ?_⟩; clear hK K)
   refine wpM_q (.bool true) rfl (fun w' hw'=>by have:=hw'.cell a16; go_simp) ?_
   refine wpM_norm (fun K hK=>?_); go_simp; refine hK _ ?_; clear hK K
   iterate 2 (refine wpM_p (fun K hK=>?_); go_simp; first | refine hK _ ?_ | refine ⟨(fun h=>by cases h),hK _ ?_⟩; clear hK K)
   refine wpM_q (I 0) rfl (fun w' hw'=>by have:=hw'.cell a17; go_simp) ?_
   refine wpM_norm (fun K hK=>?_); go_simp; refine hK _ ?_; clear hK K
   iterate 4 (refine wpM_p (fun K hK=>?_); go_simp; first | refine hK _ ?_ | refine ⟨(fun h=>by cases h),hK _ ?_⟩; clear hK K)
   refine wpM_q (.agg #[I x.server.gen,.slice xa0 x.server.box.length xc0,.bool x.server.busy,I x.server.now.client,I x.server.now.token,I x.server.now.call.kind,I x.server.now.call.name,I x.server.now.call.other,I x.server.now.call.n,.slice la0 x.server.plan.length lc0,I x.server.says.err,I x.server.says.n]) rfl (fun w' hw'=>run_loadM 40 (.tmp 80) rfl b7 4 rfl (blk_ext B_b7.out hw') [I x.server.gen,.slice xa0 x.server.box.length xc0,.bool x.server.busy,I x.server.now.client,I x.server.now.token,I x.server.now.call.kind,I x.server.now.call.name,I x.server.now.call.other,I x.server.now.call.n,.slice la0 x.server.plan.length lc0,I x.server.says.err,I x.server.says.n] rfl Try.underlying40 (by kernel_rfl)) ?_
   refine wpM_norm (fun K hK=>?_); go_simp; refine hK _ ?_; clear hK K
   iterate 2 (refine wpM_p (fun K hK=>?_); go_simp; first | refine hK _ ?_ | refine ⟨(fun h=>by cases h),hK _ ?_⟩; clear hK K)
   refine wpM_q (I mk.server.gen) rfl (fun w' hw'=>by have:=hw'.cell m4; go_simp) ?_
   refine wpM_norm (fun K hK=>?_); go_simp; refine hK _ ?_; clear hK K
   iterate 2 (refine wpM_p (fun K hK=>?_); go_simp; first | refine hK _ ?_ | refine ⟨(fun h=>by cases h),hK _ ?_⟩; clear hK K)
   refine wpM_x _ rfl (fun w' hw' hk=>?_) ?_
   ·have hg:=gives_exts (sameServer_eq x.server _ _ (.slice none 0 0) (.slice none 0 0) w' ⟨(X.out.box.ext hw').out,(X.out.plan.ext hw').out⟩ (by rw [HSV.out]; exact ⟨RowOf.nil _,writes_nil _⟩))
    rw [show (cells12 x.server (.slice none 0 0) (.slice none 0 0)) = [I (mk.server.gen + 1),.slice none 0 0,.bool false,I 0,I 0,I 0,I 0,I 0,I 0,.slice none 0 0,I 0,I 0] by rw [HSV.out]; rfl] at hg
    clear hk
    unfold makes
    go_simp
    exact ⟨Ext.refl _,hg⟩
   refine wpM_norm (fun K hK=>?_); go_simp; refine hK _ ?_; clear hK K
   iterate 3 (refine wpM_p (fun K hK=>?_); go_simp; first | refine hK _ ?_ | refine ⟨(fun h=>by cases h),hK _ ?_⟩; clear hK K)
   refine wpM_q (.agg #[.slice ca0 x.store.cells.length cc0,.slice ua0 x.store.undo.length uc0,.slice aa0 x.store.answers.length ac0,.slice pa0 x.store.past.length pc0]) rfl (fun w' hw'=>run_loadM 30 (.tmp 90) rfl b7 0 rfl (blk_ext B_b7.out hw') [.slice ca0 x.store.cells.length cc0,.slice ua0 x.store.undo.length uc0,.slice aa0 x.store.answers.length ac0,.slice pa0 x.store.past.length pc0] rfl Try.underlying30 (by kernel_rfl)) ?_
   refine wpM_norm (fun K hK=>?_); go_simp; refine hK _ ?_; clear hK K
   iterate 1 (refine wpM_p (fun K hK=>?_); go_simp; first | refine hK _ ?_ | refine ⟨(fun h=>by cases h),hK _ ?_⟩; clear hK K)
   refine wpM_q (.agg #[.slice ca mk.store.cells.length cc,.slice ua mk.store.undo.length uc,.slice aa mk.store.answers.length ac,.slice pa mk.store.past.length pc]) rfl (fun w' hw'=>run_loadM 30 (.tmp 92) rfl b5 0 rfl (blk_ext B_b5.out hw') [.slice ca mk.store.cells.length cc,.slice ua mk.store.undo.length uc,.slice aa mk.store.answers.length ac,.slice pa mk.store.past.length pc] rfl Try.underlying30 (by kernel_rfl)) ?_
   refine wpM_norm (fun K hK=>?_); go_simp; refine hK _ ?_; clear hK K
   refine wpM_l _ rfl (fun w' hw' hk=>?_) (fun v94=>?_)
   ·have hg:=stAt_of (refBack_keeps _ _ _ _ mk.store w' _ ((st_rd H.out.cells H.out.undo H.out.answers H.out.past).ext hw') GD.out.cells)
    clear hk
    unfold makes
    go_simp
    exact ⟨Ext.refl _,hg⟩
   refine wpM_norm (fun K hK=>?_); go_simp; refine hK _ ?_; clear hK K
   refine wpM_x _ rfl (fun w' hw' hk=>?_) ?_
   ·obtain ⟨_,_,_,_,rfl,q2⟩ : StAt (backSt mk.store) v94 w':=hk 94 (by decide)
    have hg:=gives_exts (sameStore_eq _ _ _ _ _ _ _ _ (backSt mk.store) w' (by rw [← HST.out]; exact ((st_rd X.out.cells X.out.undo X.out.answers X.out.past).ext hw').out) q2)
    clear hk
    unfold makes
    go_simp
    exact ⟨Ext.refl _,hg⟩
   refine wpM_norm (fun K hK=>?_); go_simp; refine hK _ ?_; clear hK K
   iterate 2 (refine wpM_p (fun K hK=>?_); go_simp; first | refine hK _ ?_ | refine ⟨(fun h=>by cases h),hK _ ?_⟩; clear hK K)
   refine wpM_q (.agg #[.slice ca0 x.store.cells.length cc0,.slice ua0 x.store.undo.length uc0,.slice aa0 x.store.answers.length ac0,.slice pa0 x.store.past.length pc0,I x.server.gen,.slice xa0 x.server.box.length xc0,.bool x.server.busy,I x.server.now.client,I x.server.now.token,I x.server.now.call.kind,I x.server.now.call.name,I x.server.now.call.other,I x.server.now.call.n,.slice la0 x.server.plan.length lc0,I x.server.says.err,I x.server.says.n,.bool x.up,I x.pause,I x.falls,.slice ka0 x.clients.length kc0]) rfl (fun w' hw'=>run_loadM 43 (.tmp 7) rfl b7 0 rfl (blk_ext B_b7.out hw') [.slice ca0 x.store.cells.length cc0,.slice ua0 x.store.undo.length uc0,.slice aa0 x.store.answers.length ac0,.slice pa0 x.store.past.length pc0,I x.server.gen,.slice xa0 x.server.box.length xc0,.bool x.server.busy,I x.server.now.client,I x.server.now.token,I x.server.now.call.kind,I x.server.now.call.name,I x.server.now.call.other,I x.server.now.call.n,.slice la0 x.server.plan.length lc0,I x.server.says.err,I x.server.says.n,.bool x.up,I x.pause,I x.falls,.slice ka0 x.clients.length kc0] rfl Try.underlying43 (by kernel_rfl)) ?_
   refine wpM_norm (fun K hK=>?_); go_simp; refine hK _ ?_; clear hK K
   refine wpM_l _ rfl (fun w' hw' hk=>?_) (fun v99=>?_)
   ·have hg:=mcAt_of (TickG_keeps x _ _ _ _ _ _ _ w' _ (X.out.ext hw') (GX.out.small (by have:=K3.out; omega)) GX.out.gen GX.out.down)
    rw [tick_up HU.out] at hg
    clear hk
    unfold makes
    go_simp
    exact ⟨Ext.refl _,hg⟩
   refine wpM_norm (fun K hK=>?_); go_simp; refine hK _ ?_; clear hK K
   refine wpM_q (.agg #[.slice ca0 x.store.cells.length cc0,.slice ua0 x.store.undo.length uc0,.slice aa0 x.store.answers.length ac0,.slice pa0 x.store.past.length pc0,I x.server.gen,.slice xa0 x.server.box.length xc0,.bool x.server.busy,I x.server.now.client,I x.server.now.token,I x.server.now.call.kind,I x.server.now.call.name,I x.server.now.call.other,I x.server.now.call.n,.slice la0 x.server.plan.length lc0,I x.server.says.err,I x.server.says.n,.bool x.up,I x.pause,I x.falls,.slice ka0 x.clients.length kc0]) rfl (fun w' hw'=>run_loadM 43 (.tmp 7) rfl b7 0 rfl (blk_ext B_b7.out hw') [.slice ca0 x.store.cells.length cc0,.slice ua0 x.store.undo.length uc0,.slice aa0 x.store.answers.length ac0,.slice pa0 x.store.past.length pc0,I x.server.gen,.slice xa0 x.server.box.length xc0,.bool x.server.busy,I x.server.now.client,I x.server.now.token,I x.server.now.call.kind,I x.server.now.call.name,I x.server.now.call.other,I x.server.now.call.n,.slice la0 x.server.plan.length lc0,I x.server.says.err,I x.server.says.n,.bool x.up,I x.pause,I x.falls,.slice ka0 x.clients.length kc0] rfl Try.underlying43 (by kernel_rfl)) ?_
   refine wpM_norm (fun K hK=>?_); go_simp; refine hK _ ?_; clear hK K
   refine wpM_x _ rfl (fun w' hw' hk=>?_) ?_
   ·obtain ⟨_,_,_,_,_,_,_,rfl,q1⟩ : McAt x v99 w':=hk 99 (by decide)
    have hg:=gives_exts (sameMachine_eq x _ _ _ _ _ _ _ _ _ _ _ _ _ _ w' q1 (X.out.ext hw'))
    clear hk
    unfold makes
    go_simp
    exact ⟨Ext.refl _,hg⟩
   refine wpM_norm (fun K hK=>?_); go_simp; refine hK _ ?_; clear hK K
   iterate 2 (refine wpM_p (fun K hK=>?_); go_simp; first | refine hK _ ?_ | refine ⟨(fun h=>by cases h),hK _ ?_⟩; clear hK K)
   refine wpM_nil ?_
   intro w6 e6 _
   clear a16 a17 m4 hwr
   replace B_b5:=zbx B_b5 e6
   replace B_b7:=zbx B_b7 e6
   replace H:=Lib.hid (H.out.ext e6)
   replace X:=Lib.hid (X.out.ext e6)
   replace EW:=Lib.hid (EW.out.trans e6)
   clear e6
   go_wp2
   go_ret
   exact ⟨rfl,EW.out⟩

end Go.Proofs.Ytdmipnnfoolelad
