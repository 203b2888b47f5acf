/- Texts of the proof, merged: V7. -/
import Derived.Test.YtdmipnnfooleladGreatJT
import Derived.Test.YtdmipnnfooleladGreatJE

namespace Go.Proofs.YtdmipnnfooleladGreat
open Go.RowKit Go.Mk
set_option maxRecDepth 100000

def aQ : Rq:=⟨1,0,⟨1,7,0,5⟩⟩
theorem al1 : comeSv (idleSv 0 []) (reqB aQ) = (⟨0,[reqB aQ],false,zeroRq,[],⟨0,0⟩⟩,0):=rfl
theorem al2 : serveM newSt ⟨0,[reqB aQ],false,zeroRq,[],⟨0,0⟩⟩ = (newSt,⟨0,[],true,aQ,[(1,7),(2,5),(0,1)],⟨0,0⟩⟩,[],0):=by
 have h : readRq (reqB aQ) = (aQ,0):=readRq_req (by decide)
 unfold serveM
 dsimp only
 rw [h]
 rfl
theorem al3 : serveM newSt ⟨0,[],true,aQ,[(1,7),(2,5),(0,1)],⟨0,0⟩⟩ = (writeSt newSt (1,7),⟨0,[],true,aQ,[(2,5),(0,1)],⟨0,0⟩⟩,[],0):=rfl
theorem field_plan (x0 x1 x2 x3 x4 x5 x6 x7 x8 x9 x10 x11 : Value) (w : World) : (Instr.field 41 (.agg #[x0,x1,x2,x3,x4,x5,x6,x7,x8,x9,x10,x11]) 4).run Tryz.prog w = .ok x9 w:=by kernel_rfl

set_option maxHeartbeats 8000000 in
theorem aliveServe_any (w : World) : Gives Tryz.prog 15 #[] w fun r _=>r = .bool true:=by
 refine gives_exts ?_
 have EW:=Lib.hid (Ext.refl w)
 obtain ⟨i0,hi,hz0,hz1,hz2⟩:=info_parts Tryz.infoInt
 have HI:=Lib.hid hi
 clear hi
 go_enter Tryz.func15,Tryz.ntmps15
 go_wp2_with fail
 refine (RequestBytes_any 1 0 1 7 0 5 w).to fun qv w1 e1 hq=>?_
 obtain ⟨qa,qc,rfl⟩:=row_slice hq
 have HQ:=Lib.hid hq
 clear hq
 replace EW:=Lib.hid (EW.out.trans e1)
 go_wp2_with fail
 refine (Come_keeps (idleSv 0 []) (.slice none 0 0) (.slice none 0 0) _ (reqB aQ) w1 (RowOf.nil _) (writes_nil _) HQ.out ⟨Nat.zero_le _,fun b hb=>(by cases hb),Nat.zero_le _⟩ (by decide)).to fun r w2 e2 hr=>?_
 rw [al1] at hr
 obtain ⟨cs,rfl,hcs⟩:=rd_tupE hr
 obtain ⟨box1,plan1,rfl,r1,r2⟩:=rd_sv hcs
 obtain ⟨xa1,xc1,ex⟩:=rowOf_slice r1.out
 replace ex : box1 = .slice xa1 1 xc1:=ex
 obtain ⟨la1,lc1,el⟩:=row_slice r2.out
 replace el : plan1 = .slice la1 0 lc1:=el
 subst ex el
 obtain ⟨B,HB0⟩ : ∃ B : Nat → Prop,Hid (∀ k,B k ↔ True):=⟨_,fun _=>Iff.rfl⟩
 have X1:=Lib.hid (hcs.widen (B:=B) fun k _ _=>(HB0.out k).2 trivial)
 clear hr hcs r1 r2 HQ
 replace EW:=Lib.hid (EW.out.trans e2)
 clear e1 e2
 go_wp2_with ((with_reducible refine zst (L:=[44,41,31,100]) ?_ ?_); exact rfl)
 unfold Hid
 refine wpList_allocB rfl 41 #[I 0,.slice none 0 0,.bool false,I 0,I 0,I 0,I 0,I 0,I 0,.slice none 0 0,I 0,I 0] (by kernel_rfl) (fun b2 w1_ M1=>?_)
 obtain ⟨B1,HB1⟩ : ∃ X : Nat → Prop,Hid (∀ k,X k ↔ (B k ∧ k ≠ b2)):=⟨_,fun _=>Iff.rfl⟩
 replace X1:=zmd HB1 M1 X1
 have N_b2 : Hid (¬ B1 b2):=fun h=>((HB1.out _).1 h).2 rfl
 have I_B1 : Hid (∀ k,B1 k → B k):=fun k h=>((HB1.out k).1 h).1
 have O_b2 : Hid (w.heap.size ≤ b2):=by unfold Hid; have q2:=M1.out.at_; have q3:=EW.out.size; omega
 have B_b2:=zmb M1
 replace X1:=zme M1 X1
 replace EW:=zet EW M1
 go_wp2_with ((with_reducible refine zst (L:=[44,41,31,100]) ?_ ?_); exact rfl)
 unfold Hid
 refine wpList_storeW rfl 41 (.tmp 2) (.tmp 18) rfl b2 rfl [I 0,.slice xa1 1 xc1,.bool false,I 0,I 0,I 0,I 0,I 0,I 0,.slice la1 0 lc1,I 0,I 0] (rfl) B_b2 rfl (by kernel_rfl) rfl (fun w2_ M2=>?_)
 replace B_b2:=zwb M2
 replace X1:=zwr M2 X1 N_b2
 replace EW:=zwe M2 EW O_b2
 go_upto_region 3 with fail
 have SZB : Hid (b2 < w2_.heap.size):=(Array.getElem?_eq_some_iff.1 B_b2.out).1
 go_cut [4,5,6] (fun p4 y5 e6 wc=>∃ (b4 : Nat) (ca2 : Option Addr) (cc2 : Nat) (ua2 : Option Addr) (uc2 : Nat) (aa2 : Option Addr) (ac2 : Nat) (pa2 : Option Addr) (pc2 : Nat) (xa2 : Option Addr) (xc2 : Nat) (la2 : Option Addr) (lc2 : Nat) (ya : Option Addr) (yc : Nat),p4 = .pointer (some ⟨b4,0,none⟩) ∧ y5 = .slice ya 0 yc ∧ e6 = I 0 ∧ w2_.heap.size ≤ b4 ∧ wc.heap[b4]? = some (.cells #[.slice ca2 11 cc2,.slice ua2 0 uc2,.slice aa2 0 ac2,.slice pa2 0 pc2] 31 (0,0)) ∧ wc.heap[b2]? = some (.cells #[I 0,.slice xa2 0 xc2,.bool true,I 1,I 0,I 1,I 7,I 0,I 5,.slice la2 3 lc2,I 0,I 0] 41 (0,0)) ∧ Ext w wc ∧ Rd (fun k=>w2_.heap.size ≤ k ∧ k ≠ b4) (fun w=>elSt w [.slice ca2 11 cc2,.slice ua2 0 uc2,.slice aa2 0 ac2,.slice pa2 0 pc2] newSt ∧ elSv w [I 0,.slice xa2 0 xc2,.bool true,I 1,I 0,I 1,I 7,I 0,I 5,.slice la2 3 lc2,I 0,I 0] ⟨0,[],true,aQ,[(1,7),(2,5),(0,1)],⟨0,0⟩⟩) wc)
 case first =>
  go_wp2_with fail
  refine heldP_drew (S:=fun w'=>w'.heap[b2]? = some (.cells #[I 0,.slice xa1 1 xc1,.bool false,I 0,I 0,I 0,I 0,I 0,I 0,.slice la1 0 lc1,I 0,I 0] 41 (0,0))) (pre:=fun j=>j != 11) (by kernel_rfl) (fun wd ed _=>?_)
  replace B_b2:=zbx B_b2 ed
  replace X1:=zrx X1 ed
  replace EW:=Lib.hid (EW.out.trans ed)
  have SZD : Hid (w2_.heap.size ≤ wd.heap.size):=ed.size
  clear ed
  refine heldP_take 2 rfl (by kernel_rfl) (by kernel_rfl) (by kernel_rfl) (by kernel_rfl) (fun _ _ _ _ h=>h) (.agg #[I 0,.slice xa1 1 xc1,.bool false,I 0,I 0,I 0,I 0,I 0,I 0,.slice la1 0 lc1,I 0,I 0]) rfl (fun w' hS=>run_loadM 41 (.tmp 2) rfl b2 0 rfl hS [I 0,.slice xa1 1 xc1,.bool false,I 0,I 0,I 0,I 0,I 0,I 0,.slice la1 0 lc1,I 0,I 0] rfl Tryz.underlying41 (by kernel_rfl)) B_b2.out ?_
  refine heldP_norm (fun K hK=>?_); go_simp; refine hK _ ?_; clear hK K
  refine heldP_two 0 9 (by kernel_rfl) ?_ ?_
  ·have SZC:=SZD
   refine wpOp_value rfl rfl (.slice (some ⟨wd.heap.size,0,none⟩) 11 11) (wd.alloc (.cells #[I 0,I 0,I 0,I 0,I 0,I 0,I 0,I 0,I 0,I 0,I 0] 3)) (by kernel_rfl) ⟨fun _ _=>blk_ext B_b2.out ((Ext.refl _).alloc _),?_⟩
   have MM:=Lib.hid (made wd (.cells #[I 0,I 0,I 0,I 0,I 0,I 0,I 0,I 0,I 0,I 0,I 0] 3))
   have hints : Ints (wd.alloc (.cells #[I 0,I 0,I 0,I 0,I 0,I 0,I 0,I 0,I 0,I 0,I 0] 3)) (.slice (some ⟨wd.heap.size,0,none⟩) 11 11) (List.replicate 11 (0 : Int)):=ints_lit _ [0,0,0,0,0,0,0,0,0,0,0] _ 11 rfl rfl (by decide)
   generalize hwm : wd.alloc (.cells #[I 0,I 0,I 0,I 0,I 0,I 0,I 0,I 0,I 0,I 0,I 0] 3) = wm at *
   generalize wd.heap.size = bm at *
   clear hwm
   have HI11:=Lib.hid hints
   clear hints
   replace B_b2:=zbx B_b2 MM.out.ext
   replace X1:=zrx X1 MM.out.ext
   replace EW:=Lib.hid (EW.out.trans MM.out.ext)
   replace SZC : Hid (w2_.heap.size ≤ wm.heap.size):=by unfold Hid; have q:=SZC.out; have q2:=MM.out.size; omega
   refine heldP_norm (fun K hK=>?_); go_simp; refine hK _ ?_; clear hK K
   refine heldP_pure 1 rfl (by kernel_rfl) (by kernel_rfl) (by kernel_rfl) (fun _ _ _ _ h=>h) rfl (fun K hK=>?_); go_simp; refine hK _ ?_; clear hK K
   refine heldP_two 3 9 (by kernel_rfl) ?_ ?_
   ·refine wpOp_call rfl rfl 12 #[.agg #[.slice (some ⟨bm,0,none⟩) 11 11,.slice none 0 0,.slice none 0 0,.slice none 0 0],.agg #[I 0,.slice xa1 1 xc1,.bool false,I 0,I 0,I 0,I 0,I 0,I 0,.slice la1 0 lc1,I 0,I 0]] (by go_simp) ?_
    obtain ⟨x1,x2⟩:=(sv_iff (v:=⟨0,[reqB aQ],false,zeroRq,[],⟨0,0⟩⟩)).1 X1.out.out
    refine (Go_keeps (List.replicate 11 (0 : Int)) [] [] [] 0 [reqB aQ] false 0 0 0 0 0 0 [] 0 0 _ _ _ _ _ _ wm (st_iff.2 ⟨HI11.out,writes_nil _,RowOf.nil _,RowOf.nil _⟩) x1 x2 (by unfold Small; decide) ⟨by decide,fun b hb=>by rw [List.mem_singleton.1 hb]; decide,by decide⟩ (fun _=>weak_of (by decide))).to fun r wg eg hr=>?_
    replace hr : Rd (fun k=>False ∨ wm.heap.size ≤ k) (Tup4 (serveM newSt ⟨0,[reqB aQ],false,zeroRq,[],⟨0,0⟩⟩).1 (serveM newSt ⟨0,[reqB aQ],false,zeroRq,[],⟨0,0⟩⟩).2.1 (serveM newSt ⟨0,[reqB aQ],false,zeroRq,[],⟨0,0⟩⟩).2.2.1 (serveM newSt ⟨0,[reqB aQ],false,zeroRq,[],⟨0,0⟩⟩).2.2.2 r) wg:=hr
    rw [al2] at hr
    obtain ⟨cs,ds,bv,rfl,hcs,hds,hbv⟩:=rd_tup4 hr
    obtain ⟨c,u,a,p,rfl,r1,r2,r3,r4⟩:=rd_st hcs
    obtain ⟨box2,plan2,rfl,r5,r6⟩:=rd_sv hds
    obtain ⟨ca2,cc2,q1⟩:=row_slice r1.out
    replace q1 : c = .slice ca2 11 cc2:=q1
    obtain ⟨ua2,uc2,q2⟩:=row_slice r2.out
    replace q2 : u = .slice ua2 0 uc2:=q2
    obtain ⟨aa2,ac2,q3⟩:=rowOf_slice r3.out
    replace q3 : a = .slice aa2 0 ac2:=q3
    obtain ⟨pa2,pc2,q4⟩:=rowOf_slice r4.out
    replace q4 : p = .slice pa2 0 pc2:=q4
    obtain ⟨xa2,xc2,q5⟩:=rowOf_slice r5.out
    replace q5 : box2 = .slice xa2 0 xc2:=q5
    obtain ⟨la2,lc2,q6⟩:=row_slice r6.out
    replace q6 : plan2 = .slice la2 3 lc2:=q6
    obtain ⟨ya,yc,q7⟩:=row_slice hbv.out
    replace q7 : bv = .slice ya 0 yc:=q7
    subst q1 q2 q3 q4 q5 q6 q7
    have RG : Hid (Rd (fun k=>w2_.heap.size ≤ k) (fun w=>elSt w [.slice ca2 11 cc2,.slice ua2 0 uc2,.slice aa2 0 ac2,.slice pa2 0 pc2] newSt ∧ elSv w [I 0,.slice xa2 0 xc2,.bool true,I 1,I 0,I 1,I 7,I 0,I 5,.slice la2 3 lc2,I 0,I 0] ⟨0,[],true,aQ,[(1,7),(2,5),(0,1)],⟨0,0⟩⟩) wg):=(hcs.and hds).widen fun k _ h=>by rcases h with h | h; exact h.elim; have q:=SZC.out; omega
    clear hr hcs hds hbv r1 r2 r3 r4 r5 r6 x1 x2
    replace B_b2:=zbx B_b2 eg
    replace X1:=zrx X1 eg
    replace EW:=Lib.hid (EW.out.trans eg)
    replace HI11:=Lib.hid (HI11.out.ext eg)
    replace SZC : Hid (w2_.heap.size ≤ wg.heap.size):=by unfold Hid; have q:=SZC.out; have q2:=eg.size; omega
    refine ⟨_,rfl,fun _ _=>B_b2.out,?_⟩
    refine heldP_norm (fun K hK=>?_); go_simp; refine hK _ ?_; clear hK K
    refine heldP_pure 4 rfl (by kernel_rfl) (by kernel_rfl) (by kernel_rfl) (fun _ _ _ _ h=>h) rfl (fun K hK=>?_); go_simp; refine hK _ ?_; clear hK K
    refine heldP_pure 5 rfl (by kernel_rfl) (by kernel_rfl) (by kernel_rfl) (fun _ _ _ _ h=>h) rfl (fun K hK=>?_); go_simp; refine hK _ ?_; clear hK K
    refine heldP_pure 6 rfl (by kernel_rfl) (by kernel_rfl) (by kernel_rfl) (fun _ _ _ _ h=>h) rfl (fun K hK=>?_); go_simp; refine hK _ ?_; clear hK K
    refine heldP_pure 7 rfl (by kernel_rfl) (by kernel_rfl) (by kernel_rfl) (fun _ _ _ _ h=>h) rfl (fun K hK=>?_); go_simp; refine hK _ ?_; clear hK K
    refine heldP_pure 8 rfl (by kernel_rfl) (by kernel_rfl) (by kernel_rfl) (fun _ _ _ _ h=>h) rfl (fun K hK=>?_); go_simp; refine hK _ ?_; clear hK K
    refine heldP_all 9 (by kernel_rfl) ?_
    refine wpOp_alloc rfl rfl 31 #[.slice none 0 0,.slice none 0 0,.slice none 0 0,.slice none 0 0] (by kernel_rfl) (fun b4 wa MA=>⟨fun _ _=>MA.out.old B_b2.out,?_⟩)
    have HB4 : Hid (w2_.heap.size ≤ b4):=by unfold Hid; have q:=MA.out.at_; have q2:=SZC.out; omega
    replace RG:=Lib.hid (((RG).out.widen (B:=fun k=>w2_.heap.size ≤ k ∧ k ≠ b4) (fun k hk h=>⟨h,by have q:=MA.out.at_; omega⟩)).ext MA.out.ext)
    have SZA : Hid (b4 < wa.heap.size):=by unfold Hid; have q:=MA.out.size; omega
    have D_b2_b4:=zld B_b2 MA
    replace B_b2:=zmo MA B_b2
    have B_b4:=zmb MA
    replace EW:=zet EW MA
    replace X1:=zme MA X1
    replace SZC : Hid (w2_.heap.size ≤ wa.heap.size):=by unfold Hid; have q:=SZC.out; have q2:=MA.out.size; have q3:=MA.out.at_; omega
    replace HI11:=Lib.hid (HI11.out.ext MA.out.ext)
    refine heldP_norm (fun K hK=>?_); go_simp; refine hK _ ?_; clear hK K
    refine heldP_all 10 (by kernel_rfl) (wpOp_storeW rfl rfl 31 (.tmp 4) (.tmp 25) rfl b4 rfl [.slice ca2 11 cc2,.slice ua2 0 uc2,.slice aa2 0 ac2,.slice pa2 0 pc2] rfl B_b4 rfl (by kernel_rfl) rfl (fun wy MY=>⟨fun _ _=>MY.out.old B_b2.out (Nat.ne_of_lt D_b2_b4.out),?_⟩))
    have O_b4 : Hid (w.heap.size ≤ b4):=by unfold Hid; have q:=HB4.out; have q2:=SZB.out; have q3:=O_b2.out; omega
    replace RG:=Lib.hid (MY.out.rd RG.out (fun h=>h.2 rfl))
    replace B_b2:=zwl MY B_b2 D_b2_b4
    replace B_b4:=zwb MY
    replace EW:=zwe MY EW O_b4
    refine heldP_norm (fun K hK=>?_); go_simp; refine hK _ ?_; clear hK K
    refine heldP_all 11 (by kernel_rfl) (wpOp_storeW rfl rfl 41 (.tmp 2) (.tmp 26) rfl b2 rfl [I 0,.slice xa2 0 xc2,.bool true,I 1,I 0,I 1,I 7,I 0,I 5,.slice la2 3 lc2,I 0,I 0] rfl B_b2 rfl (by kernel_rfl) rfl (fun wx MX=>⟨fun h _=>absurd h (by decide),?_⟩))
    replace RG:=Lib.hid (MX.out.rd RG.out (fun h=>by have q:=h.1; have q2:=SZB.out; omega))
    replace B_b4:=zwg MX B_b4 D_b2_b4
    replace B_b2:=zwb MX
    replace EW:=zwe MX EW O_b2
    refine heldP_norm (fun K hK=>?_); go_simp; refine hK _ ?_; clear hK K
    refine heldP_all 12 (by kernel_rfl) (wpOp_value rfl rfl _ _ rfl ⟨fun _ h=>h,?_⟩)
    refine heldP_norm (fun K hK=>?_); go_simp; refine hK _ ?_; clear hK K
    refine heldP_all 13 (by kernel_rfl) (wpOp_value rfl rfl _ _ rfl ⟨fun _ h=>h,?_⟩)
    refine heldP_norm (fun K hK=>?_); go_simp; refine hK _ ?_; clear hK K
    refine heldP_done (by kernel_rfl) ?_ _
    go_wp2_with fail
    go_meet
    case rel=>exact ⟨b4,_,_,_,_,_,_,_,_,_,_,_,_,_,_,rfl,rfl,rfl,HB4.out,B_b4.out,B_b2.out,EW.out,RG.out⟩
   ·refine wpOp_alloc rfl rfl 31 #[.slice none 0 0,.slice none 0 0,.slice none 0 0,.slice none 0 0] (by kernel_rfl) (fun b4 wa MA=>⟨fun _ _=>MA.out.old B_b2.out,?_⟩)
    have HB4 : Hid (w2_.heap.size ≤ b4):=by unfold Hid; have q:=MA.out.at_; have q2:=SZC.out; omega
    have SZA : Hid (b4 < wa.heap.size):=by unfold Hid; have q:=MA.out.size; omega
    have D_b2_b4:=zld B_b2 MA
    replace B_b2:=zmo MA B_b2
    have B_b4:=zmb MA
    replace EW:=zet EW MA
    replace X1:=zme MA X1
    replace SZC : Hid (w2_.heap.size ≤ wa.heap.size):=by unfold Hid; have q:=SZC.out; have q2:=MA.out.size; have q3:=MA.out.at_; omega
    replace HI11:=Lib.hid (HI11.out.ext MA.out.ext)
    refine heldP_norm (fun K hK=>?_); go_simp; refine hK _ ?_; clear hK K
    refine heldP_all 3 (by kernel_rfl) ?_
    refine wpOp_call rfl rfl 12 #[.agg #[.slice (some ⟨bm,0,none⟩) 11 11,.slice none 0 0,.slice none 0 0,.slice none 0 0],.agg #[I 0,.slice xa1 1 xc1,.bool false,I 0,I 0,I 0,I 0,I 0,I 0,.slice la1 0 lc1,I 0,I 0]] (by go_simp) ?_
    have SZA2 : Hid (b4 < wa.heap.size):=(Array.getElem?_eq_some_iff.1 B_b4.out).1
    obtain ⟨x1,x2⟩:=(sv_iff (v:=⟨0,[reqB aQ],false,zeroRq,[],⟨0,0⟩⟩)).1 X1.out.out
    refine (Go_keeps (List.replicate 11 (0 : Int)) [] [] [] 0 [reqB aQ] false 0 0 0 0 0 0 [] 0 0 _ _ _ _ _ _ wa (st_iff.2 ⟨HI11.out,writes_nil _,RowOf.nil _,RowOf.nil _⟩) x1 x2 (by unfold Small; decide) ⟨by decide,fun b hb=>by rw [List.mem_singleton.1 hb]; decide,by decide⟩ (fun _=>weak_of (by decide))).to fun r wg eg hr=>?_
    replace hr : Rd (fun k=>False ∨ wa.heap.size ≤ k) (Tup4 (serveM newSt ⟨0,[reqB aQ],false,zeroRq,[],⟨0,0⟩⟩).1 (serveM newSt ⟨0,[reqB aQ],false,zeroRq,[],⟨0,0⟩⟩).2.1 (serveM newSt ⟨0,[reqB aQ],false,zeroRq,[],⟨0,0⟩⟩).2.2.1 (serveM newSt ⟨0,[reqB aQ],false,zeroRq,[],⟨0,0⟩⟩).2.2.2 r) wg:=hr
    rw [al2] at hr
    obtain ⟨cs,ds,bv,rfl,hcs,hds,hbv⟩:=rd_tup4 hr
    obtain ⟨c,u,a,p,rfl,r1,r2,r3,r4⟩:=rd_st hcs
    obtain ⟨box2,plan2,rfl,r5,r6⟩:=rd_sv hds
    obtain ⟨ca2,cc2,q1⟩:=row_slice r1.out
    replace q1 : c = .slice ca2 11 cc2:=q1
    obtain ⟨ua2,uc2,q2⟩:=row_slice r2.out
    replace q2 : u = .slice ua2 0 uc2:=q2
    obtain ⟨aa2,ac2,q3⟩:=rowOf_slice r3.out
    replace q3 : a = .slice aa2 0 ac2:=q3
    obtain ⟨pa2,pc2,q4⟩:=rowOf_slice r4.out
    replace q4 : p = .slice pa2 0 pc2:=q4
    obtain ⟨xa2,xc2,q5⟩:=rowOf_slice r5.out
    replace q5 : box2 = .slice xa2 0 xc2:=q5
    obtain ⟨la2,lc2,q6⟩:=row_slice r6.out
    replace q6 : plan2 = .slice la2 3 lc2:=q6
    obtain ⟨ya,yc,q7⟩:=row_slice hbv.out
    replace q7 : bv = .slice ya 0 yc:=q7
    subst q1 q2 q3 q4 q5 q6 q7
    have RG : Hid (Rd (fun k=>w2_.heap.size ≤ k ∧ k ≠ b4) (fun w=>elSt w [.slice ca2 11 cc2,.slice ua2 0 uc2,.slice aa2 0 ac2,.slice pa2 0 pc2] newSt ∧ elSv w [I 0,.slice xa2 0 xc2,.bool true,I 1,I 0,I 1,I 7,I 0,I 5,.slice la2 3 lc2,I 0,I 0] ⟨0,[],true,aQ,[(1,7),(2,5),(0,1)],⟨0,0⟩⟩) wg):=(hcs.and hds).widen fun k _ h=>⟨by rcases h with h | h; exact h.elim; have q:=SZC.out; omega,by rcases h with h | h; exact h.elim; have q:=SZA2.out; omega⟩
    clear hr hcs hds hbv r1 r2 r3 r4 r5 r6 x1 x2
    replace B_b2:=zbx B_b2 eg
    replace B_b4:=zbx B_b4 eg
    replace X1:=zrx X1 eg
    replace EW:=Lib.hid (EW.out.trans eg)
    replace HI11:=Lib.hid (HI11.out.ext eg)
    replace SZC : Hid (w2_.heap.size ≤ wg.heap.size):=by unfold Hid; have q:=SZC.out; have q2:=eg.size; omega
    refine ⟨_,rfl,fun _ _=>B_b2.out,?_⟩
    refine heldP_norm (fun K hK=>?_); go_simp; refine hK _ ?_; clear hK K
    refine heldP_pure 4 rfl (by kernel_rfl) (by kernel_rfl) (by kernel_rfl) (fun _ _ _ _ h=>h) rfl (fun K hK=>?_); go_simp; refine hK _ ?_; clear hK K
    refine heldP_pure 5 rfl (by kernel_rfl) (by kernel_rfl) (by kernel_rfl) (fun _ _ _ _ h=>h) rfl (fun K hK=>?_); go_simp; refine hK _ ?_; clear hK K
    refine heldP_pure 6 rfl (by kernel_rfl) (by kernel_rfl) (by kernel_rfl) (fun _ _ _ _ h=>h) rfl (fun K hK=>?_); go_simp; refine hK _ ?_; clear hK K
    refine heldP_pure 7 rfl (by kernel_rfl) (by kernel_rfl) (by kernel_rfl) (fun _ _ _ _ h=>h) rfl (fun K hK=>?_); go_simp; refine hK _ ?_; clear hK K
    refine heldP_pure 8 rfl (by kernel_rfl) (by kernel_rfl) (by kernel_rfl) (fun _ _ _ _ h=>h) rfl (fun K hK=>?_); go_simp; refine hK _ ?_; clear hK K
    refine heldP_all 10 (by kernel_rfl) (wpOp_storeW rfl rfl 31 (.tmp 4) (.tmp 25) rfl b4 rfl [.slice ca2 11 cc2,.slice ua2 0 uc2,.slice aa2 0 ac2,.slice pa2 0 pc2] rfl B_b4 rfl (by kernel_rfl) rfl (fun wy MY=>⟨fun _ _=>MY.out.old B_b2.out (Nat.ne_of_lt D_b2_b4.out),?_⟩))
    have O_b4 : Hid (w.heap.size ≤ b4):=by unfold Hid; have q:=HB4.out; have q2:=SZB.out; have q3:=O_b2.out; omega
    replace RG:=Lib.hid (MY.out.rd RG.out (fun h=>h.2 rfl))
    replace B_b2:=zwl MY B_b2 D_b2_b4
    replace B_b4:=zwb MY
    replace EW:=zwe MY EW O_b4
    refine heldP_norm (fun K hK=>?_); go_simp; refine hK _ ?_; clear hK K
    refine heldP_all 11 (by kernel_rfl) (wpOp_storeW rfl rfl 41 (.tmp 2) (.tmp 26) rfl b2 rfl [I 0,.slice xa2 0 xc2,.bool true,I 1,I 0,I 1,I 7,I 0,I 5,.slice la2 3 lc2,I 0,I 0] rfl B_b2 rfl (by kernel_rfl) rfl (fun wx MX=>⟨fun h _=>absurd h (by decide),?_⟩))
    replace RG:=Lib.hid (MX.out.rd RG.out (fun h=>by have q:=h.1; have q2:=SZB.out; omega))
    replace B_b4:=zwg MX B_b4 D_b2_b4
    replace B_b2:=zwb MX
    replace EW:=zwe MX EW O_b2
    refine heldP_norm (fun K hK=>?_); go_simp; refine hK _ ?_; clear hK K
    refine heldP_all 12 (by kernel_rfl) (wpOp_value rfl rfl _ _ rfl ⟨fun _ h=>h,?_⟩)
    refine heldP_norm (fun K hK=>?_); go_simp; refine hK _ ?_; clear hK K
    refine heldP_all 13 (by kernel_rfl) (wpOp_value rfl rfl _ _ rfl ⟨fun _ h=>h,?_⟩)
    refine heldP_norm (fun K hK=>?_); go_simp; refine hK _ ?_; clear hK K
    refine heldP_done (by kernel_rfl) ?_ _
    go_wp2_with fail
    go_meet
    case rel=>exact ⟨b4,_,_,_,_,_,_,_,_,_,_,_,_,_,_,rfl,rfl,rfl,HB4.out,B_b4.out,B_b2.out,EW.out,RG.out⟩
  ·have SZC:=SZD
   refine wpOp_alloc rfl rfl 31 #[.slice none 0 0,.slice none 0 0,.slice none 0 0,.slice none 0 0] (by kernel_rfl) (fun b4 wa MA=>⟨fun _ _=>MA.out.old B_b2.out,?_⟩)
   have HB4 : Hid (w2_.heap.size ≤ b4):=by unfold Hid; have q:=MA.out.at_; have q2:=SZC.out; omega
   have SZA : Hid (b4 < wa.heap.size):=by unfold Hid; have q:=MA.out.size; omega
   have D_b2_b4:=zld B_b2 MA
   replace B_b2:=zmo MA B_b2
   have B_b4:=zmb MA
   replace EW:=zet EW MA
   replace X1:=zme MA X1
   replace SZC : Hid (w2_.heap.size ≤ wa.heap.size):=by unfold Hid; have q:=SZC.out; have q2:=MA.out.size; have q3:=MA.out.at_; omega
   refine heldP_norm (fun K hK=>?_); go_simp; refine hK _ ?_; clear hK K
   refine heldP_all 0 (by kernel_rfl) ?_
   refine wpOp_value rfl rfl (.slice (some ⟨wa.heap.size,0,none⟩) 11 11) (wa.alloc (.cells #[I 0,I 0,I 0,I 0,I 0,I 0,I 0,I 0,I 0,I 0,I 0] 3)) (by kernel_rfl) ⟨fun _ _=>blk_ext B_b2.out ((Ext.refl _).alloc _),?_⟩
   have MM:=Lib.hid (made wa (.cells #[I 0,I 0,I 0,I 0,I 0,I 0,I 0,I 0,I 0,I 0,I 0] 3))
   have hints : Ints (wa.alloc (.cells #[I 0,I 0,I 0,I 0,I 0,I 0,I 0,I 0,I 0,I 0,I 0] 3)) (.slice (some ⟨wa.heap.size,0,none⟩) 11 11) (List.replicate 11 (0 : Int)):=ints_lit _ [0,0,0,0,0,0,0,0,0,0,0] _ 11 rfl rfl (by decide)
   generalize hwm : wa.alloc (.cells #[I 0,I 0,I 0,I 0,I 0,I 0,I 0,I 0,I 0,I 0,I 0] 3) = wm at *
   generalize wa.heap.size = bm at *
   clear hwm
   have HI11:=Lib.hid hints
   clear hints
   replace B_b2:=zbx B_b2 MM.out.ext
   replace B_b4:=zbx B_b4 MM.out.ext
   replace X1:=zrx X1 MM.out.ext
   replace EW:=Lib.hid (EW.out.trans MM.out.ext)
   replace SZC : Hid (w2_.heap.size ≤ wm.heap.size):=by unfold Hid; have q:=SZC.out; have q2:=MM.out.size; omega
   refine heldP_norm (fun K hK=>?_); go_simp; refine hK _ ?_; clear hK K
   refine heldP_pure 1 rfl (by kernel_rfl) (by kernel_rfl) (by kernel_rfl) (fun _ _ _ _ h=>h) rfl (fun K hK=>?_); go_simp; refine hK _ ?_; clear hK K
   refine heldP_all 3 (by kernel_rfl) ?_
   refine wpOp_call rfl rfl 12 #[.agg #[.slice (some ⟨bm,0,none⟩) 11 11,.slice none 0 0,.slice none 0 0,.slice none 0 0],.agg #[I 0,.slice xa1 1 xc1,.bool false,I 0,I 0,I 0,I 0,I 0,I 0,.slice la1 0 lc1,I 0,I 0]] (by go_simp) ?_
   have SZA2 : Hid (b4 < wm.heap.size):=(Array.getElem?_eq_some_iff.1 B_b4.out).1
   obtain ⟨x1,x2⟩:=(sv_iff (v:=⟨0,[reqB aQ],false,zeroRq,[],⟨0,0⟩⟩)).1 X1.out.out
   refine (Go_keeps (List.replicate 11 (0 : Int)) [] [] [] 0 [reqB aQ] false 0 0 0 0 0 0 [] 0 0 _ _ _ _ _ _ wm (st_iff.2 ⟨HI11.out,writes_nil _,RowOf.nil _,RowOf.nil _⟩) x1 x2 (by unfold Small; decide) ⟨by decide,fun b hb=>by rw [List.mem_singleton.1 hb]; decide,by decide⟩ (fun _=>weak_of (by decide))).to fun r wg eg hr=>?_
   replace hr : Rd (fun k=>False ∨ wm.heap.size ≤ k) (Tup4 (serveM newSt ⟨0,[reqB aQ],false,zeroRq,[],⟨0,0⟩⟩).1 (serveM newSt ⟨0,[reqB aQ],false,zeroRq,[],⟨0,0⟩⟩).2.1 (serveM newSt ⟨0,[reqB aQ],false,zeroRq,[],⟨0,0⟩⟩).2.2.1 (serveM newSt ⟨0,[reqB aQ],false,zeroRq,[],⟨0,0⟩⟩).2.2.2 r) wg:=hr
   rw [al2] at hr
   obtain ⟨cs,ds,bv,rfl,hcs,hds,hbv⟩:=rd_tup4 hr
   obtain ⟨c,u,a,p,rfl,r1,r2,r3,r4⟩:=rd_st hcs
   obtain ⟨box2,plan2,rfl,r5,r6⟩:=rd_sv hds
   obtain ⟨ca2,cc2,q1⟩:=row_slice r1.out
   replace q1 : c = .slice ca2 11 cc2:=q1
   obtain ⟨ua2,uc2,q2⟩:=row_slice r2.out
   replace q2 : u = .slice ua2 0 uc2:=q2
   obtain ⟨aa2,ac2,q3⟩:=rowOf_slice r3.out
   replace q3 : a = .slice aa2 0 ac2:=q3
   obtain ⟨pa2,pc2,q4⟩:=rowOf_slice r4.out
   replace q4 : p = .slice pa2 0 pc2:=q4
   obtain ⟨xa2,xc2,q5⟩:=rowOf_slice r5.out
   replace q5 : box2 = .slice xa2 0 xc2:=q5
   obtain ⟨la2,lc2,q6⟩:=row_slice r6.out
   replace q6 : plan2 = .slice la2 3 lc2:=q6
   obtain ⟨ya,yc,q7⟩:=row_slice hbv.out
   replace q7 : bv = .slice ya 0 yc:=q7
   subst q1 q2 q3 q4 q5 q6 q7
   have RG : Hid (Rd (fun k=>w2_.heap.size ≤ k ∧ k ≠ b4) (fun w=>elSt w [.slice ca2 11 cc2,.slice ua2 0 uc2,.slice aa2 0 ac2,.slice pa2 0 pc2] newSt ∧ elSv w [I 0,.slice xa2 0 xc2,.bool true,I 1,I 0,I 1,I 7,I 0,I 5,.slice la2 3 lc2,I 0,I 0] ⟨0,[],true,aQ,[(1,7),(2,5),(0,1)],⟨0,0⟩⟩) wg):=(hcs.and hds).widen fun k _ h=>⟨by rcases h with h | h; exact h.elim; have q:=SZC.out; omega,by rcases h with h | h; exact h.elim; have q:=SZA2.out; omega⟩
   clear hr hcs hds hbv r1 r2 r3 r4 r5 r6 x1 x2
   replace B_b2:=zbx B_b2 eg
   replace B_b4:=zbx B_b4 eg
   replace X1:=zrx X1 eg
   replace EW:=Lib.hid (EW.out.trans eg)
   replace HI11:=Lib.hid (HI11.out.ext eg)
   replace SZC : Hid (w2_.heap.size ≤ wg.heap.size):=by unfold Hid; have q:=SZC.out; have q2:=eg.size; omega
   refine ⟨_,rfl,fun _ _=>B_b2.out,?_⟩
   refine heldP_norm (fun K hK=>?_); go_simp; refine hK _ ?_; clear hK K
   refine heldP_pure 4 rfl (by kernel_rfl) (by kernel_rfl) (by kernel_rfl) (fun _ _ _ _ h=>h) rfl (fun K hK=>?_); go_simp; refine hK _ ?_; clear hK K
   refine heldP_pure 5 rfl (by kernel_rfl) (by kernel_rfl) (by kernel_rfl) (fun _ _ _ _ h=>h) rfl (fun K hK=>?_); go_simp; refine hK _ ?_; clear hK K
   refine heldP_pure 6 rfl (by kernel_rfl) (by kernel_rfl) (by kernel_rfl) (fun _ _ _ _ h=>h) rfl (fun K hK=>?_); go_simp; refine hK _ ?_; clear hK K
   refine heldP_pure 7 rfl (by kernel_rfl) (by kernel_rfl) (by kernel_rfl) (fun _ _ _ _ h=>h) rfl (fun K hK=>?_); go_simp; refine hK _ ?_; clear hK K
   refine heldP_pure 8 rfl (by kernel_rfl) (by kernel_rfl) (by kernel_rfl) (fun _ _ _ _ h=>h) rfl (fun K hK=>?_); go_simp; refine hK _ ?_; clear hK K
   refine heldP_all 10 (by kernel_rfl) (wpOp_storeW rfl rfl 31 (.tmp 4) (.tmp 25) rfl b4 rfl [.slice ca2 11 cc2,.slice ua2 0 uc2,.slice aa2 0 ac2,.slice pa2 0 pc2] rfl B_b4 rfl (by kernel_rfl) rfl (fun wy MY=>⟨fun _ _=>MY.out.old B_b2.out (Nat.ne_of_lt D_b2_b4.out),?_⟩))
   have O_b4 : Hid (w.heap.size ≤ b4):=by unfold Hid; have q:=HB4.out; have q2:=SZB.out; have q3:=O_b2.out; omega
   replace RG:=Lib.hid (MY.out.rd RG.out (fun h=>h.2 rfl))
   replace B_b2:=zwl MY B_b2 D_b2_b4
   replace B_b4:=zwb MY
   replace EW:=zwe MY EW O_b4
   refine heldP_norm (fun K hK=>?_); go_simp; refine hK _ ?_; clear hK K
   refine heldP_all 11 (by kernel_rfl) (wpOp_storeW rfl rfl 41 (.tmp 2) (.tmp 26) rfl b2 rfl [I 0,.slice xa2 0 xc2,.bool true,I 1,I 0,I 1,I 7,I 0,I 5,.slice la2 3 lc2,I 0,I 0] rfl B_b2 rfl (by kernel_rfl) rfl (fun wx MX=>⟨fun h _=>absurd h (by decide),?_⟩))
   replace RG:=Lib.hid (MX.out.rd RG.out (fun h=>by have q:=h.1; have q2:=SZB.out; omega))
   replace B_b4:=zwg MX B_b4 D_b2_b4
   replace B_b2:=zwb MX
   replace EW:=zwe MX EW O_b2
   refine heldP_norm (fun K hK=>?_); go_simp; refine hK _ ?_; clear hK K
   refine heldP_all 12 (by kernel_rfl) (wpOp_value rfl rfl _ _ rfl ⟨fun _ h=>h,?_⟩)
   refine heldP_norm (fun K hK=>?_); go_simp; refine hK _ ?_; clear hK K
   refine heldP_all 13 (by kernel_rfl) (wpOp_value rfl rfl _ _ rfl ⟨fun _ h=>h,?_⟩)
   refine heldP_norm (fun K hK=>?_); go_simp; refine hK _ ?_; clear hK K
   refine heldP_done (by kernel_rfl) ?_ _
   go_wp2_with fail
   go_meet
   case rel=>exact ⟨b4,_,_,_,_,_,_,_,_,_,_,_,_,_,_,rfl,rfl,rfl,HB4.out,B_b4.out,B_b2.out,EW.out,RG.out⟩
 case rest =>
  rename World=>wc
  obtain ⟨b4,ca2,cc2,ua2,uc2,aa2,ac2,pa2,pc2,xa2,xc2,la2,lc2,ya,yc,rfl,rfl,rfl,hb4,hB4,hB2,hex,hR⟩:=hcut
  obtain ⟨E,HE⟩ : ∃ E : Nat → Prop,Hid (∀ k,E k ↔ (w2_.heap.size ≤ k ∧ k ≠ b4)):=⟨_,fun _=>Iff.rfl⟩
  have R0:=Lib.hid (hR.widen (B:=E) fun k _ h=>(HE.out k).2 h)
  clear B_b2 EW X1
  have B_b2:=Lib.hid hB2
  have B_b4:=Lib.hid hB4
  have EW:=Lib.hid hex
  have D_b2_b4 : Hid (b2 < b4):=by unfold Hid; have q:=SZB.out; omega
  have O_b4 : Hid (w.heap.size ≤ b4):=by unfold Hid; have q:=O_b2.out; have q2:=D_b2_b4.out; omega
  have N_b4 : Hid (¬ E b4):=fun h=>((HE.out _).1 h).2 rfl
  replace N_b2 : Hid (¬ E b2):=fun h=>by have q:=((HE.out _).1 h).1; have q2:=SZB.out; omega
  clear hB2 hB4 hex hR hb4 SZB
  go_wp2_with ((with_reducible refine zst (L:=[44,41,31,100]) ?_ ?_); exact rfl)
  unfold Hid
  refine wpList_loadW rfl 31 (.tmp 4) rfl b4 rfl B_b4 Tryz.underlying31 (by kernel_rfl) (fun v30 H_v30=>?_)
  go_wp2_with ((with_reducible refine zst (L:=[44,41,31,100]) ?_ ?_); exact rfl)
  unfold Hid
  refine wpList_loadW rfl 41 (.tmp 2) rfl b2 rfl B_b2 Tryz.underlying41 (by kernel_rfl) (fun v31 H_v31=>?_)
  go_wp2_with fail
  rw [H_v30.out,H_v31.out]
  clear H_v30 H_v31
  obtain ⟨E1,HE1⟩ : ∃ X : Nat → Prop,Hid (∀ k,X k ↔ (E k ∨ wc.heap.size ≤ k)):=⟨_,fun _=>Iff.rfl⟩
  replace R0:=Lib.hid (R0.out.widen (B:=E1) fun k _ h=>(HE1.out k).2 (.inl h))
  replace N_b2 : Hid (¬ E1 b2):=zgr HE1 N_b2 B_b2
  replace N_b4 : Hid (¬ E1 b4):=zgr HE1 N_b4 B_b4
  obtain ⟨x1,x2⟩:=(sv_iff (v:=⟨0,[],true,aQ,[(1,7),(2,5),(0,1)],⟨0,0⟩⟩)).1 R0.out.out.2
  refine (Go_keeps (List.replicate 11 (0 : Int)) [] [] [] 0 [] true 1 0 1 7 0 5 [(1,7),(2,5),(0,1)] 0 0 _ _ _ _ _ _ wc R0.out.out.1 x1 x2 (by unfold Small; decide) ⟨by decide,fun b hb=>(by cases hb),by decide⟩ (fun h=>by cases h)).to fun r w9 e9 hr=>?_
  replace hr : Rd (fun k=>False ∨ wc.heap.size ≤ k) (Tup4 (serveM newSt ⟨0,[],true,aQ,[(1,7),(2,5),(0,1)],⟨0,0⟩⟩).1 (serveM newSt ⟨0,[],true,aQ,[(1,7),(2,5),(0,1)],⟨0,0⟩⟩).2.1 (serveM newSt ⟨0,[],true,aQ,[(1,7),(2,5),(0,1)],⟨0,0⟩⟩).2.2.1 (serveM newSt ⟨0,[],true,aQ,[(1,7),(2,5),(0,1)],⟨0,0⟩⟩).2.2.2 r) w9:=hr
  rw [al3] at hr
  obtain ⟨cs,ds,bv,rfl,hcs,hds,hbv⟩:=rd_tup4 hr
  obtain ⟨c,u,a,p,rfl,r1,r2,r3,r4⟩:=rd_st hcs
  obtain ⟨box3,plan3,rfl,r5,r6⟩:=rd_sv hds
  obtain ⟨ca3,cc3,rfl⟩:=row_slice r1.out
  obtain ⟨ua3,uc3,rfl⟩:=row_slice r2.out
  obtain ⟨aa3,ac3,rfl⟩:=rowOf_slice r3.out
  obtain ⟨pa3,pc3,rfl⟩:=rowOf_slice r4.out
  obtain ⟨xa3,xc3,q5⟩:=rowOf_slice r5.out
  replace q5 : box3 = .slice xa3 0 xc3:=q5
  obtain ⟨la3,lc3,q6⟩:=row_slice r6.out
  replace q6 : plan3 = .slice la3 2 lc3:=q6
  obtain ⟨ya3,yc3,q7⟩:=row_slice hbv.out
  replace q7 : bv = .slice ya3 0 yc3:=q7
  subst q5 q6 q7
  clear hr hcs hds hbv r1 r2 r3 r4 r5 r6 x1 x2
  replace B_b2:=zbx B_b2 e9
  replace B_b4:=zbx B_b4 e9
  replace R0:=zrx R0 e9
  replace EW:=Lib.hid (EW.out.trans e9)
  clear e9
  go_wp2_with ((with_reducible refine zst (L:=[44,41,31,100]) ?_ ?_); exact rfl)
  unfold Hid
  refine wpList_allocB rfl 31 #[.slice none 0 0,.slice none 0 0,.slice none 0 0,.slice none 0 0] (by kernel_rfl) (fun b7 w3_ M3=>?_)
  have D_b2_b7:=zld B_b2 M3
  have D_b4_b7:=zld B_b4 M3
  obtain ⟨E11,HE11⟩ : ∃ X : Nat → Prop,Hid (∀ k,X k ↔ (E1 k ∧ k ≠ b7)):=⟨_,fun _=>Iff.rfl⟩
  replace R0:=zmd HE11 M3 R0
  replace N_b2:=znw HE11 N_b2
  replace N_b4:=znw HE11 N_b4
  have N_b7 : Hid (¬ E11 b7):=fun h=>((HE11.out _).1 h).2 rfl
  have I_E11 : Hid (∀ k,E11 k → E1 k):=fun k h=>((HE11.out k).1 h).1
  have O_b7 : Hid (w.heap.size ≤ b7):=by unfold Hid; have q2:=M3.out.at_; have q3:=EW.out.size; omega
  replace B_b2:=zmo M3 B_b2
  replace B_b4:=zmo M3 B_b4
  have B_b7:=zmb M3
  replace R0:=zme M3 R0
  replace EW:=zet EW M3
  go_wp2_with ((with_reducible refine zst (L:=[44,41,31,100]) ?_ ?_); exact rfl)
  unfold Hid
  refine wpList_allocB rfl 41 #[I 0,.slice none 0 0,.bool false,I 0,I 0,I 0,I 0,I 0,I 0,.slice none 0 0,I 0,I 0] (by kernel_rfl) (fun b8 w4_ M4=>?_)
  have D_b2_b8:=zld B_b2 M4
  have D_b4_b8:=zld B_b4 M4
  have D_b7_b8:=zld B_b7 M4
  obtain ⟨E111,HE111⟩ : ∃ X : Nat → Prop,Hid (∀ k,X k ↔ (E11 k ∧ k ≠ b8)):=⟨_,fun _=>Iff.rfl⟩
  replace R0:=zmd HE111 M4 R0
  replace N_b2:=znw HE111 N_b2
  replace N_b4:=znw HE111 N_b4
  replace N_b7:=znw HE111 N_b7
  have N_b8 : Hid (¬ E111 b8):=fun h=>((HE111.out _).1 h).2 rfl
  have I_E111 : Hid (∀ k,E111 k → E11 k):=fun k h=>((HE111.out k).1 h).1
  have O_b8 : Hid (w.heap.size ≤ b8):=by unfold Hid; have q2:=M4.out.at_; have q3:=EW.out.size; omega
  replace B_b2:=zmo M4 B_b2
  replace B_b4:=zmo M4 B_b4
  replace B_b7:=zmo M4 B_b7
  have B_b8:=zmb M4
  replace R0:=zme M4 R0
  replace EW:=zet EW M4
  go_wp2_with ((with_reducible refine zst (L:=[44,41,31,100]) ?_ ?_); exact rfl)
  unfold Hid
  refine wpList_storeW rfl 31 (.tmp 7) (.tmp 33) rfl b7 rfl [.slice ca3 (writeSt newSt (1,7)).cells.length cc3,.slice ua3 (writeSt newSt (1,7)).undo.length uc3,.slice aa3 (writeSt newSt (1,7)).answers.length ac3,.slice pa3 (writeSt newSt (1,7)).past.length pc3] (rfl) B_b7 rfl (by kernel_rfl) rfl (fun w5_ M5=>?_)
  replace B_b2:=zwl M5 B_b2 D_b2_b7
  replace B_b4:=zwl M5 B_b4 D_b4_b7
  replace B_b7:=zwb M5
  replace B_b8:=zwg M5 B_b8 D_b7_b8
  replace R0:=zwr M5 R0 N_b7
  replace EW:=zwe M5 EW O_b7
  go_wp2_with ((with_reducible refine zst (L:=[44,41,31,100]) ?_ ?_); exact rfl)
  unfold Hid
  refine wpList_storeW rfl 41 (.tmp 8) (.tmp 34) rfl b8 rfl [I 0,.slice xa3 0 xc3,.bool true,I 1,I 0,I 1,I 7,I 0,I 5,.slice la3 2 lc3,I 0,I 0] (rfl) B_b8 rfl (by kernel_rfl) rfl (fun w6_ M6=>?_)
  replace B_b2:=zwl M6 B_b2 D_b2_b8
  replace B_b4:=zwl M6 B_b4 D_b4_b8
  replace B_b7:=zwl M6 B_b7 D_b7_b8
  replace B_b8:=zwb M6
  replace R0:=zwr M6 R0 N_b8
  replace EW:=zwe M6 EW O_b8
  have g0:=cell_of (i:=0) B_b2.out rfl
  have g1:=cell_of (i:=1) B_b2.out rfl
  have g2:=cell_of (i:=2) B_b2.out rfl
  have g3:=cell_of (i:=3) B_b2.out rfl
  have g4:=cell_of (i:=4) B_b2.out rfl
  have g5:=cell_of (i:=5) B_b2.out rfl
  have g6:=cell_of (i:=6) B_b2.out rfl
  have g7:=cell_of (i:=7) B_b2.out rfl
  have g8:=cell_of (i:=8) B_b2.out rfl
  have g9:=cell_of (i:=9) B_b2.out rfl
  have g10:=cell_of (i:=10) B_b2.out rfl
  have g11:=cell_of (i:=11) B_b2.out rfl
  have k9:=cell_of (i:=9) B_b8.out rfl
  go_wp2_with fail
  clear g0 g1 g2 g3 g4 g5 g6 g7 g8 g9 g10 g11 k9
  obtain ⟨x1,x2⟩:=(sv_iff (v:=⟨0,[],true,aQ,[(1,7),(2,5),(0,1)],⟨0,0⟩⟩)).1 R0.out.out.2
  refine (OwnV_any ⟨0,[],true,aQ,[(1,7),(2,5),(0,1)],⟨0,0⟩⟩ _ _ w6_ x1 x2 ⟨by decide,fun b hb=>(by cases hb),by decide⟩).to fun r wA eA hr=>?_
  obtain ⟨bx',pl',er,ho,yg,rfl⟩:=hr
  obtain ⟨za,zc,q⟩:=own_slice ho.plan
  replace q : pl' = .slice za 3 zc:=q
  subst q
  replace er : r = .agg #[I 0,.slice (some ⟨yg,0,none⟩) 0 0,.bool true,I 1,I 0,I 1,I 7,I 0,I 5,.slice za 3 zc,I 0,I 0]:=er
  subst er
  have hf:=field_plan (I 0) (.slice (some ⟨yg,0,none⟩) 0 0) (.bool true) (I 1) (I 0) (I 1) (I 7) (I 0) (I 5) (.slice za 3 zc) (I 0) (I 0) wA
  clear ho x1 x2
  replace B_b2:=zbx B_b2 eA
  replace B_b4:=zbx B_b4 eA
  replace B_b7:=zbx B_b7 eA
  replace B_b8:=zbx B_b8 eA
  replace R0:=zrx R0 eA
  replace EW:=Lib.hid (EW.out.trans eA)
  clear eA
  go_wp2
  go_ret
  exact ⟨rfl,EW.out⟩

end Go.Proofs.YtdmipnnfooleladGreat
