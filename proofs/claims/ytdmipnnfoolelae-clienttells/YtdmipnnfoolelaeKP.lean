/- Texts of the proof, merged: C3. -/
import Derived.Test.YtdmipnnfoolelaeKK
import Derived.Test.YtdmipnnfoolelaeKO

namespace Go.Proofs.Ytdmipnnfoolelae
open Go.RowKit Go.Mk

set_option maxRecDepth 100000 in
set_option maxHeartbeats 8000000 in
theorem ClientTells_of (hCome : ComeOk) (hGo : GoOk) (v0 v1 v2 : Value) (l : List (List Cl)) (steps : List (Int × Int)) (bs : List UInt8) (me gen : Int) (up : Bool) (w : World) (h0 : RowOf 1 elCls w v0 l) (h1 : Writes w v1 steps) (h2 : Bytes w v2 bs) (hr : bs.length * 1 ≤ 140737488355328) :
  Gives Try.prog 3 #[v0,v1,v2,I me,I gen,.bool up] w fun r _=>r = .bool true:=by
 refine gives_exts ?_
 have HV:=Lib.hid h0
 have HSTP:=Lib.hid h1
 have HBS:=Lib.hid (Rd.widen (B:=fun _=>True) (Rd.of (row_heap _ _ _ _) h2) (fun _ _ _=>trivial))
 replace HBS : Hid (Rd (fun _=>True) (fun w=>Bytes w v2 bs) w):=HBS
 have HR : Hid (bs.length ≤ 140737488355328):=by unfold Hid; omega
 obtain ⟨za,zc,rfl⟩:=rowOf_slice h0
 obtain ⟨ta,tc,rfl⟩:=row_slice h1
 obtain ⟨ba,bc,rfl⟩:=row_slice h2
 have HCO:=Lib.hid hCome
 have HGO:=Lib.hid hGo
 clear h0 h1 h2 hr hCome hGo
 have EW:=Lib.hid (Ext.refl w)
 go_enter Try.func3,Try.ntmps3
 go_wp2_with fail
 refine (refRight_any _ l w HV.out).mono ?_
 rintro e wr0 ⟨bR,rfl,hbR,e0⟩
 cases bR
 case false =>
  go_wp2
  go_ret
  exact ⟨rfl,e0⟩
 have HRL:=Lib.hid (hbR.1 rfl)
 clear hbR
 replace HBS:=zrx HBS e0
 replace EW:=Lib.hid (EW.out.trans e0)
 clear e0
 go_wp2_with fail
 refine (refPlay_keeps _ _ l steps wr0 (fun _=>True) HRL.out (Rd.widen (Rd.of (rowOf_heap heapCls _ _) (HV.out.ext monoCls' EW.out)) (fun _ _ _=>trivial)) (HSTP.out.ext EW.out)).to fun r wp ep hr=>?_
 obtain ⟨cs,es,rfl,hm,hes⟩:=rd_play hr
 obtain ⟨mk,hmk⟩ : ∃ mk,playM (newMc l) (steps.take 400) = mk:=⟨_,rfl⟩
 have hgc:=good_play HRL.out steps
 have hcn : (playM (newMc l) (steps.take 400)).clients.length ≤ 3:=by
  obtain ⟨ks,bz,hinv⟩:=inv_all HRL.out (steps.take 400)
  rw [hinv.nc]
  exact HRL.out.1
 rw [hmk] at hm hgc hcn
 obtain ⟨c,u,a,p,box,plan,cl,rfl,hM⟩:=rd_mc hm
 obtain ⟨ca,cc,ua,uc,aa,ac,pa,pc,xa,xc,la,lc,ka,kc,rfl,rfl,rfl,rfl,rfl,rfl,rfl⟩:=hM.slices
 obtain ⟨B,HB0⟩ : ∃ B : Nat → Prop,Hid (∀ k,B k ↔ True):=⟨_,fun _=>Iff.rfl⟩
 have H:=Lib.hid (hM.widen (B:=B) (fun k _ _=>(HB0.out k).2 trivial))
 have GC:=Lib.hid hgc
 have HN3:=Lib.hid hcn
 obtain ⟨esa,esc,rfl⟩:=row_slice hes.out
 clear hM hm hr hes hmk hgc hcn HV HSTP
 replace HBS:=zrx HBS ep
 replace EW:=Lib.hid (EW.out.trans ep)
 clear ep
 replace HBS:=Lib.hid (HBS.out.widen (B:=B) fun k _ _=>(HB0.out k).2 trivial)
 go_wp2_with ((with_reducible refine zst (L:=[44,41,31,51]) ?_ ?_); exact rfl)
 unfold Hid
 refine wpList_allocB rfl 44 #[.slice none 0 0,.slice none 0 0,.slice none 0 0,.slice none 0 0,I 0,.slice none 0 0,.bool false,I 0,I 0,I 0,I 0,I 0,I 0,.slice none 0 0,I 0,I 0,.bool false,I 0,I 0,.slice none 0 0] (by kernel_rfl) (fun b13 w1_ M1=>?_)
 obtain ⟨B1,HB1⟩ : ∃ X : Nat → Prop,Hid (∀ k,X k ↔ (B k ∧ k ≠ b13)):=⟨_,fun _=>Iff.rfl⟩
 replace HBS:=zmd HB1 M1 HBS
 replace H:=Lib.hid (H.out.widen (B:=B1) (fun k hk h=>(HB1.out k).2 ⟨h,by have q2:=M1.out.at_; omega⟩))
 have N_b13 : Hid (¬ B1 b13):=fun h=>((HB1.out _).1 h).2 rfl
 have I_B1 : Hid (∀ k,B1 k → B k):=fun k h=>((HB1.out k).1 h).1
 have O_b13 : Hid (w.heap.size ≤ b13):=by unfold Hid; have q2:=M1.out.at_; have q3:=EW.out.size; omega
 have B_b13:=zmb M1
 replace HBS:=zme M1 HBS
 replace H:=Lib.hid (H.out.ext M1.out.ext)
 replace EW:=zet EW M1
 go_wp2_with ((with_reducible refine zst (L:=[44,41,31,51]) ?_ ?_); exact rfl)
 unfold Hid
 refine wpList_storeW rfl 44 (.tmp 13) (.tmp 35) rfl b13 rfl [.slice ca mk.store.cells.length cc,.slice ua mk.store.undo.length uc,.slice aa mk.store.answers.length ac,.slice pa mk.store.past.length pc,I mk.server.gen,.slice xa mk.server.box.length xc,.bool mk.server.busy,I mk.server.now.client,I mk.server.now.token,I mk.server.now.call.kind,I mk.server.now.call.name,I mk.server.now.call.other,I mk.server.now.call.n,.slice la mk.server.plan.length lc,I mk.server.says.err,I mk.server.says.n,.bool mk.up,I mk.pause,I mk.falls,.slice ka mk.clients.length kc] (rfl) B_b13 rfl (by kernel_rfl) rfl (fun w2_ M2=>?_)
 replace B_b13:=zwb M2
 replace HBS:=zwr M2 HBS N_b13
 replace H:=Lib.hid (M2.out.rdM H.out N_b13.out)
 replace EW:=zwe M2 EW O_b13
 have c19:=cell_of (i:=19) B_b13.out rfl
 go_wp2_with fail
 clear c19
 go_loopw [40] (fun i wr=>∃ k : Nat,k ≤ mk.clients.length ∧ i = I k ∧ Ext w2_ wr) (fun i _=>mk.clients.length - (intOf i).toNat)
 case atStart=>exact ⟨0,Nat.zero_le _,rfl,Ext.refl _⟩
 case round =>
  obtain ⟨k,hk,rfl,hex⟩:=hrel
  have E0:=EW
  replace EW:=Lib.hid (Ext.refl w2_)
  replace B_b13:=zbx B_b13 hex
  replace HBS:=zrx HBS hex
  replace H:=Lib.hid (H.out.ext hex)
  replace EW:=Lib.hid (EW.out.trans hex)
  clear hex
  by_cases hlt : k < mk.clients.length
  case neg =>
   go_wp2
   go_ret
   exact ⟨rfl,E0.out.trans EW.out⟩
  obtain ⟨css,hcs⟩:=rd_rowOf2 (by decide) H.out.clients
  obtain ⟨c0,x,hc0,hx,-⟩:=elem_at hcs.left.out hlt
  obtain ⟨kcalls,kbox,kgot,rfl,q1,q2,q3⟩:=rd_cn (rd_elem hcs.left hc0 hx)
  obtain ⟨ka0,kc0,rfl⟩:=rowOf_slice q1.out
  obtain ⟨kx0,ky0,rfl⟩:=rowOf_slice q2.out
  obtain ⟨kg0,kh0,rfl⟩:=rowOf_slice q3.out
  obtain ⟨kb,ko,hka⟩ : ∃ b o,ka = some ⟨b,o,none⟩:=by
   obtain ⟨_,_,e1,_,_,_,hf⟩:=H.out.clients.out.form (by decide)
   simp only [Value.slice.injEq,true_and] at e1
   obtain ⟨rfl,rfl⟩:=e1
   obtain ⟨b,o,_,e2,_⟩:=hf _ _ hx
   exact ⟨b,o,e2⟩
  subst hka
  have HRG:=Lib.hid (row_cells (by decide) hcs.right.out hcs.left.out.sizes hc0)
  have Q1:=Lib.hid q1
  have Q2:=Lib.hid q2
  have Q3:=Lib.hid q3
  have GX:=Lib.hid (GC.out x (List.mem_of_getElem? hx))
  have hli : (k : Int) < (mk.clients.length : Int):=by omega
  have hl0 : (0 : Int) ≤ (k : Int):=by omega
  have HLT : Hid (k < 3):=by unfold Hid; have q:=HN3.out; omega
  clear hcs hc0 hx q1 q2 q3
  go_wp2_with ((with_reducible refine zst (L:=[44,41,31,51]) ?_ ?_); exact rfl)
  unfold Hid
  clear hli hl0
  refine wpList_loadR rfl 51 (.tmp 43) rfl kb (ko + k * 6) rfl [.slice ka0 x.calls.length kc0,I x.at_,.bool x.sent,I x.gen,.slice kx0 x.box.length ky0,.slice kg0 x.got.length kh0] HRG.out Try.underlying51 (by kernel_rfl) (fun v44 H_v44=>?_)
  go_wp2_with ((with_reducible refine zst (L:=[44,41,31,51]) ?_ ?_); exact rfl)
  unfold Hid
  refine wpList_allocB rfl 51 #[.slice none 0 0,I 0,.bool false,I 0,.slice none 0 0,.slice none 0 0] (by kernel_rfl) (fun b16 w101_ M101=>?_)
  have D_b13_b16:=zld B_b13 M101
  obtain ⟨B11,HB11⟩ : ∃ X : Nat → Prop,Hid (∀ k,X k ↔ (B1 k ∧ k ≠ b16)):=⟨_,fun _=>Iff.rfl⟩
  replace HBS:=zmd HB11 M101 HBS
  replace H:=Lib.hid (H.out.widen (B:=B11) (fun k hk h=>(HB11.out k).2 ⟨h,by have q2:=M101.out.at_; omega⟩))
  replace Q1:=zmd HB11 M101 Q1
  replace Q2:=zmd HB11 M101 Q2
  replace Q3:=zmd HB11 M101 Q3
  replace N_b13:=znw HB11 N_b13
  have N_b16 : Hid (¬ B11 b16):=fun h=>((HB11.out _).1 h).2 rfl
  have I_B11 : Hid (∀ k,B11 k → B1 k):=fun k h=>((HB11.out k).1 h).1
  have O_b16 : Hid (w2_.heap.size ≤ b16):=by unfold Hid; have q2:=M101.out.at_; have q3:=EW.out.size; omega
  replace B_b13:=zmo M101 B_b13
  have B_b16:=zmb M101
  replace HBS:=zme M101 HBS
  replace H:=Lib.hid (H.out.ext M101.out.ext)
  replace Q1:=zme M101 Q1
  replace Q2:=zme M101 Q2
  replace Q3:=zme M101 Q3
  replace EW:=zet EW M101
  go_wp2_with ((with_reducible refine zst (L:=[44,41,31,51]) ?_ ?_); exact rfl)
  unfold Hid
  refine wpList_storeW rfl 51 (.tmp 16) (.tmp 44) rfl b16 rfl _ (zcv H_v44) B_b16 rfl (by kernel_rfl) rfl (fun w102_ M102=>?_)
  replace B_b13:=zwl M102 B_b13 D_b13_b16
  replace B_b16:=zwb M102
  replace HBS:=zwr M102 HBS N_b16
  replace H:=Lib.hid (M102.out.rdM H.out N_b16.out)
  replace Q1:=zwr M102 Q1 N_b16
  replace Q2:=zwr M102 Q2 N_b16
  replace Q3:=zwr M102 Q3 N_b16
  replace EW:=zwe M102 EW O_b16
  obtain ⟨AA,HAA⟩ : ∃ X : Nat → Prop,Hid (∀ k,X k ↔ (B11 k ∧ k < w102_.heap.size)):=⟨_,fun _=>Iff.rfl⟩
  replace Q1:=Lib.hid (Q1.out.widen (B:=AA) fun k hk h=>(HAA.out k).2 ⟨h,hk⟩)
  replace Q2:=Lib.hid (Q2.out.widen (B:=AA) fun k hk h=>(HAA.out k).2 ⟨h,hk⟩)
  replace Q3:=Lib.hid (Q3.out.widen (B:=AA) fun k hk h=>(HAA.out k).2 ⟨h,hk⟩)
  replace HBS:=Lib.hid (HBS.out.widen (B:=AA) fun k hk h=>(HAA.out k).2 ⟨h,hk⟩)
  have SZA : Hid (∀ k,AA k → k < w102_.heap.size):=fun k h=>((HAA.out k).1 h).2
  clear H
  go_upto_region 7 with fail
  refine code_normC (fun K hK=>?_)
  go_simp
  refine hK _ ?_
  clear hK K HRG
  go_cut [17,18] (fun p17 p18 wc=>∃ (b17 b18 : Nat) (ka1 : Option Addr) (kc1 : Nat) (kx1 : Option Addr) (ky1 : Nat) (kg1 : Option Addr) (kh1 : Nat) (ka2 : Option Addr) (kc2 : Nat) (kx2 : Option Addr) (ky2 : Nat) (kg2 : Option Addr) (kh2 : Nat),p17 = .pointer (some ⟨b17,0,none⟩) ∧ p18 = .pointer (some ⟨b18,0,none⟩) ∧ w102_.heap.size ≤ b17 ∧ w102_.heap.size ≤ b18 ∧ b17 ≠ b18 ∧ wc.heap[b17]? = some (.cells #[.slice ka1 (comeCn x bs).calls.length kc1,I (comeCn x bs).at_,.bool (comeCn x bs).sent,I (comeCn x bs).gen,.slice kx1 (comeCn x bs).box.length ky1,.slice kg1 (comeCn x bs).got.length kh1] 51 (0,0)) ∧ wc.heap[b18]? = some (.cells #[.slice ka2 (comeCn x bs).calls.length kc2,I (comeCn x bs).at_,.bool (comeCn x bs).sent,I (comeCn x bs).gen,.slice kx2 (comeCn x bs).box.length ky2,.slice kg2 (comeCn x bs).got.length kh2] 51 (0,0)) ∧ Ext w102_ wc ∧ Rd (fun k=>(AA k ∨ w102_.heap.size ≤ k) ∧ k ≠ b17 ∧ k ≠ b18) (fun w=>elCn w [.slice ka1 (comeCn x bs).calls.length kc1,I (comeCn x bs).at_,.bool (comeCn x bs).sent,I (comeCn x bs).gen,.slice kx1 (comeCn x bs).box.length ky1,.slice kg1 (comeCn x bs).got.length kh1] (comeCn x bs)) wc ∧ Rd (fun k=>(AA k ∨ w102_.heap.size ≤ k) ∧ k ≠ b17 ∧ k ≠ b18) (fun w=>elCn w [.slice ka2 (comeCn x bs).calls.length kc2,I (comeCn x bs).at_,.bool (comeCn x bs).sent,I (comeCn x bs).gen,.slice kx2 (comeCn x bs).box.length ky2,.slice kg2 (comeCn x bs).got.length kh2] (comeCn x bs)) wc)
  case first =>
   go_wp2_with fail
   refine held_drew (S:=fun w'=>w'.heap[b16]? = some (.cells #[.slice ka0 x.calls.length kc0,I x.at_,.bool x.sent,I x.gen,.slice kx0 x.box.length ky0,.slice kg0 x.got.length kh0] 51 (0,0))) (by kernel_rfl) (fun wd ed _=>?_)
   replace B_b13:=zbx B_b13 ed
   replace B_b16:=zbx B_b16 ed
   replace HBS:=zrx HBS ed
   replace Q1:=zrx Q1 ed
   replace Q2:=zrx Q2 ed
   replace Q3:=zrx Q3 ed
   replace EW:=Lib.hid (EW.out.trans ed)
   have HSS : Hid (wd.heap[b16]? = some (.cells #[.slice ka0 x.calls.length kc0,I x.at_,.bool x.sent,I x.gen,.slice kx0 x.box.length ky0,.slice kg0 x.got.length kh0] 51 (0,0))):=B_b16.out
   have EXK : Hid (Ext w102_ wd):=ed
   clear ed
   refine held_loadW 0 rfl (by kernel_rfl) (by kernel_rfl) (by kernel_rfl) (fun _ _ _ _ h=>h) rfl 51 (.tmp 16) rfl b16 rfl (fun w' hS=>hS) Try.underlying51 (by kernel_rfl) HSS ?_
   refine held_norm (fun K hK=>?_); go_simp; refine hK _ ?_; clear hK K
   refine held_pure 1 rfl (by kernel_rfl) (by kernel_rfl) (by kernel_rfl) (fun _ _ _ _ h=>h) rfl HSS.out (fun K hK=>?_); go_simp; refine hK _ ?_; clear hK K
   refine held_loadW 3 rfl (by kernel_rfl) (by kernel_rfl) (by kernel_rfl) (fun _ _ _ _ h=>h) rfl 51 (.tmp 16) rfl b16 rfl (fun w' hS=>hS) Try.underlying51 (by kernel_rfl) HSS ?_
   refine held_norm (fun K hK=>?_); go_simp; refine hK _ ?_; clear hK K
   refine held_pure 4 rfl (by kernel_rfl) (by kernel_rfl) (by kernel_rfl) (fun _ _ _ _ h=>h) rfl HSS.out (fun K hK=>?_); go_simp; refine hK _ ?_; clear hK K
   refine held_three 2 6 7 (by kernel_rfl) ?_ ?_ ?_
   ·refine wpOp_call rfl rfl 8 #[.agg #[.slice ka0 x.calls.length kc0,I x.at_,.bool x.sent,I x.gen,.slice kx0 x.box.length ky0,.slice kg0 x.got.length kh0],.slice ba bs.length bc] (by go_simp) ?_
    refine (HCO.out x _ _ _ _ bs wd AA Q1.out Q2.out Q3.out HBS.out GX.out.1 HR.out).to fun r wg1 eg hr=>?_
    replace hr : Rd (fun k=>AA k ∨ wd.heap.size ≤ k) (Agg elCn (comeCn x bs) r) wg1:=hr
    obtain ⟨cs,rfl,hcs⟩:=rd_agg hr
    obtain ⟨x1,x2,x3,rfl,r1,r2,r3⟩:=rd_cn hcs
    obtain ⟨ka1,kc1,rfl⟩:=rowOf_slice r1.out
    obtain ⟨kx1,ky1,rfl⟩:=rowOf_slice r2.out
    obtain ⟨kg1,kh1,rfl⟩:=rowOf_slice r3.out
    have C1 : Hid (Rd (fun k=>(AA k ∨ w102_.heap.size ≤ k)) (fun w=>elCn w [.slice ka1 (comeCn x bs).calls.length kc1,I (comeCn x bs).at_,.bool (comeCn x bs).sent,I (comeCn x bs).gen,.slice kx1 (comeCn x bs).box.length ky1,.slice kg1 (comeCn x bs).got.length kh1] (comeCn x bs)) wg1):=hcs.widen fun k _ h=>(by rcases h with h | h; exact .inl h; exact .inr (by have q:=EXK.out.size; omega))
    clear hr hcs r1 r2 r3
    replace B_b16:=zbx B_b16 eg
    replace HBS:=zrx HBS eg
    replace Q1:=zrx Q1 eg
    replace Q2:=zrx Q2 eg
    replace Q3:=zrx Q3 eg
    replace EW:=Lib.hid (EW.out.trans eg)
    replace EXK:=Lib.hid (EXK.out.trans eg)
    clear HSS eg
    refine ⟨_,rfl,B_b16.out,?_⟩
    have HSS : Hid (wg1.heap[b16]? = some (.cells #[.slice ka0 x.calls.length kc0,I x.at_,.bool x.sent,I x.gen,.slice kx0 x.box.length ky0,.slice kg0 x.got.length kh0] 51 (0,0))):=B_b16.out
    refine held_norm (fun K hK=>?_); go_simp; refine hK _ ?_; clear hK K
    refine held_three 5 6 7 (by kernel_rfl) ?_ ?_ ?_
    ·refine wpOp_call rfl rfl 9 #[.agg #[.slice ka0 x.calls.length kc0,I x.at_,.bool x.sent,I x.gen,.slice kx0 x.box.length ky0,.slice kg0 x.got.length kh0],.slice ba bs.length bc] (by go_simp) ?_
     refine (refClientCome_keeps x.calls x.at_ x.sent x.gen x.box x.got _ _ _ _ bs wg1 AA Q1.out Q2.out Q3.out HBS.out (by have q:=GX.out.2; omega)).to fun r wg2 eg hr=>?_
     replace hr : Rd (fun k=>AA k ∨ wg1.heap.size ≤ k) (Agg elCn (comeCn x bs) r) wg2:=hr
     obtain ⟨cs,rfl,hcs⟩:=rd_agg hr
     obtain ⟨x1,x2,x3,rfl,r1,r2,r3⟩:=rd_cn hcs
     obtain ⟨ka2,kc2,rfl⟩:=rowOf_slice r1.out
     obtain ⟨kx2,ky2,rfl⟩:=rowOf_slice r2.out
     obtain ⟨kg2,kh2,rfl⟩:=rowOf_slice r3.out
     have C2 : Hid (Rd (fun k=>(AA k ∨ w102_.heap.size ≤ k)) (fun w=>elCn w [.slice ka2 (comeCn x bs).calls.length kc2,I (comeCn x bs).at_,.bool (comeCn x bs).sent,I (comeCn x bs).gen,.slice kx2 (comeCn x bs).box.length ky2,.slice kg2 (comeCn x bs).got.length kh2] (comeCn x bs)) wg2):=hcs.widen fun k _ h=>(by rcases h with h | h; exact .inl h; exact .inr (by have q:=EXK.out.size; omega))
     clear hr hcs r1 r2 r3
     replace B_b16:=zbx B_b16 eg
     replace HBS:=zrx HBS eg
     replace Q1:=zrx Q1 eg
     replace Q2:=zrx Q2 eg
     replace Q3:=zrx Q3 eg
     replace C1:=zrx C1 eg
     replace EW:=Lib.hid (EW.out.trans eg)
     replace EXK:=Lib.hid (EXK.out.trans eg)
     clear HSS eg
     refine ⟨_,rfl,B_b16.out,?_⟩
     have HSS : Hid (wg2.heap[b16]? = some (.cells #[.slice ka0 x.calls.length kc0,I x.at_,.bool x.sent,I x.gen,.slice kx0 x.box.length ky0,.slice kg0 x.got.length kh0] 51 (0,0))):=B_b16.out
     refine held_norm (fun K hK=>?_); go_simp; refine hK _ ?_; clear hK K
     refine held_two 6 7 (by kernel_rfl) ?_ ?_
     ·refine wpOp_alloc rfl rfl 51 #[.slice none 0 0,I 0,.bool false,I 0,.slice none 0 0,.slice none 0 0] (by kernel_rfl) (fun b17 wa17 MA17=>⟨MA17.out.old B_b16.out,?_⟩)
      have HB_b17 : Hid (w102_.heap.size ≤ b17):=by unfold Hid; have q:=MA17.out.at_; have q3:=EXK.out.size; omega
      have D_b16_b17:=zld B_b16 MA17
      replace C1:=Lib.hid (C1.out.widen (B:=(fun k=>(AA k ∨ w102_.heap.size ≤ k) ∧ k ≠ b17)) (fun k hk h=>⟨h,(by have q:=MA17.out.at_; omega)⟩))
      replace C2:=Lib.hid (C2.out.widen (B:=(fun k=>(AA k ∨ w102_.heap.size ≤ k) ∧ k ≠ b17)) (fun k hk h=>⟨h,(by have q:=MA17.out.at_; omega)⟩))
      have N_b17 : Hid (¬ AA b17):=by unfold Hid; intro h; have q:=SZA.out b17 h; have q2:=HB_b17.out; omega
      replace HBS:=Lib.hid (HBS.out.ext MA17.out.ext)
      replace Q1:=Lib.hid (Q1.out.ext MA17.out.ext)
      replace Q2:=Lib.hid (Q2.out.ext MA17.out.ext)
      replace Q3:=Lib.hid (Q3.out.ext MA17.out.ext)
      replace C1:=Lib.hid (C1.out.ext MA17.out.ext)
      replace C2:=Lib.hid (C2.out.ext MA17.out.ext)
      replace B_b16:=zmo MA17 B_b16
      have B_b17:=zmb MA17
      replace EXK:=zet EXK MA17
      replace EW:=zet EW MA17
      clear HSS
      have HSS : Hid (wa17.heap[b16]? = some (.cells #[.slice ka0 x.calls.length kc0,I x.at_,.bool x.sent,I x.gen,.slice kx0 x.box.length ky0,.slice kg0 x.got.length kh0] 51 (0,0))):=B_b16.out
      refine held_norm (fun K hK=>?_); go_simp; refine hK _ ?_; clear hK K
      refine held_all 7 (by kernel_rfl) ?_
      refine wpOp_alloc rfl rfl 51 #[.slice none 0 0,I 0,.bool false,I 0,.slice none 0 0,.slice none 0 0] (by kernel_rfl) (fun b18 wa18 MA18=>⟨MA18.out.old B_b16.out,?_⟩)
      have HB_b18 : Hid (w102_.heap.size ≤ b18):=by unfold Hid; have q:=MA18.out.at_; have q3:=EXK.out.size; omega
      have D_b16_b18:=zld B_b16 MA18
      have D_b17_b18:=zld B_b17 MA18
      replace C1:=Lib.hid (C1.out.widen (B:=(fun k=>(AA k ∨ w102_.heap.size ≤ k) ∧ k ≠ b17 ∧ k ≠ b18)) (fun k hk h=>⟨h.1,h.2,(by have q:=MA18.out.at_; omega)⟩))
      replace C2:=Lib.hid (C2.out.widen (B:=(fun k=>(AA k ∨ w102_.heap.size ≤ k) ∧ k ≠ b17 ∧ k ≠ b18)) (fun k hk h=>⟨h.1,h.2,(by have q:=MA18.out.at_; omega)⟩))
      have N_b18 : Hid (¬ AA b18):=by unfold Hid; intro h; have q:=SZA.out b18 h; have q2:=HB_b18.out; omega
      replace HBS:=Lib.hid (HBS.out.ext MA18.out.ext)
      replace Q1:=Lib.hid (Q1.out.ext MA18.out.ext)
      replace Q2:=Lib.hid (Q2.out.ext MA18.out.ext)
      replace Q3:=Lib.hid (Q3.out.ext MA18.out.ext)
      replace C1:=Lib.hid (C1.out.ext MA18.out.ext)
      replace C2:=Lib.hid (C2.out.ext MA18.out.ext)
      replace B_b16:=zmo MA18 B_b16
      replace B_b17:=zmo MA18 B_b17
      have B_b18:=zmb MA18
      replace EXK:=zet EXK MA18
      replace EW:=zet EW MA18
      clear HSS
      have HSS : Hid (wa18.heap[b16]? = some (.cells #[.slice ka0 x.calls.length kc0,I x.at_,.bool x.sent,I x.gen,.slice kx0 x.box.length ky0,.slice kg0 x.got.length kh0] 51 (0,0))):=B_b16.out
      refine held_norm (fun K hK=>?_); go_simp; refine hK _ ?_; clear hK K
      have NE : Hid (b17 ≠ b18):=(Nat.ne_of_lt D_b17_b18.out)
      refine held_storeW 8 (by kernel_rfl) rfl rfl 51 (.tmp 17) (.tmp 47) rfl b17 rfl [.slice ka1 (comeCn x bs).calls.length kc1,I (comeCn x bs).at_,.bool (comeCn x bs).sent,I (comeCn x bs).gen,.slice kx1 (comeCn x bs).box.length ky1,.slice kg1 (comeCn x bs).got.length kh1] rfl B_b17 rfl (by kernel_rfl) rfl (fun ws8 MS8=>⟨MS8.out.old B_b16.out (Nat.ne_of_lt D_b16_b17.out),?_⟩)
      replace C1:=Lib.hid (MS8.out.rd C1.out (fun h=>h.2.1 rfl))
      replace C2:=Lib.hid (MS8.out.rd C2.out (fun h=>h.2.1 rfl))
      replace B_b16:=zwl MS8 B_b16 D_b16_b17
      replace B_b18:=Lib.hid (MS8.out.old B_b18.out (Ne.symm NE.out))
      replace B_b17:=zwb MS8
      replace EXK:=Lib.hid (MS8.out.ext EXK.out HB_b17.out)
      clear HSS
      have HSS : Hid (ws8.heap[b16]? = some (.cells #[.slice ka0 x.calls.length kc0,I x.at_,.bool x.sent,I x.gen,.slice kx0 x.box.length ky0,.slice kg0 x.got.length kh0] 51 (0,0))):=B_b16.out
      refine held_norm (fun K hK=>?_); go_simp; refine hK _ ?_; clear hK K
      refine held_storeW 9 (by kernel_rfl) rfl rfl 51 (.tmp 18) (.tmp 50) rfl b18 rfl [.slice ka2 (comeCn x bs).calls.length kc2,I (comeCn x bs).at_,.bool (comeCn x bs).sent,I (comeCn x bs).gen,.slice kx2 (comeCn x bs).box.length ky2,.slice kg2 (comeCn x bs).got.length kh2] rfl B_b18 rfl (by kernel_rfl) rfl (fun ws9 MS9=>⟨MS9.out.old B_b16.out (Nat.ne_of_lt D_b16_b18.out),?_⟩)
      replace C1:=Lib.hid (MS9.out.rd C1.out (fun h=>h.2.2 rfl))
      replace C2:=Lib.hid (MS9.out.rd C2.out (fun h=>h.2.2 rfl))
      replace B_b16:=zwl MS9 B_b16 D_b16_b18
      replace B_b17:=Lib.hid (MS9.out.old B_b17.out NE.out)
      replace B_b18:=zwb MS9
      replace EXK:=Lib.hid (MS9.out.ext EXK.out HB_b18.out)
      clear HSS
      have HSS : Hid (ws9.heap[b16]? = some (.cells #[.slice ka0 x.calls.length kc0,I x.at_,.bool x.sent,I x.gen,.slice kx0 x.box.length ky0,.slice kg0 x.got.length kh0] 51 (0,0))):=B_b16.out
      refine held_norm (fun K hK=>?_); go_simp; refine hK _ ?_; clear hK K
      refine wpAnyH_done (by kernel_rfl) ?_ _
      clear HSS
      go_wp2_with fail
      go_meet
      case rel=>exact ⟨b17,b18,_,_,_,_,_,_,_,_,_,_,_,_,rfl,rfl,HB_b17.out,HB_b18.out,NE.out,B_b17.out,B_b18.out,EXK.out,C1.out,C2.out⟩
     ·refine wpOp_alloc rfl rfl 51 #[.slice none 0 0,I 0,.bool false,I 0,.slice none 0 0,.slice none 0 0] (by kernel_rfl) (fun b18 wa18 MA18=>⟨MA18.out.old B_b16.out,?_⟩)
      have HB_b18 : Hid (w102_.heap.size ≤ b18):=by unfold Hid; have q:=MA18.out.at_; have q3:=EXK.out.size; omega
      have D_b16_b18:=zld B_b16 MA18
      replace C1:=Lib.hid (C1.out.widen (B:=(fun k=>(AA k ∨ w102_.heap.size ≤ k) ∧ k ≠ b18)) (fun k hk h=>⟨h,(by have q:=MA18.out.at_; omega)⟩))
      replace C2:=Lib.hid (C2.out.widen (B:=(fun k=>(AA k ∨ w102_.heap.size ≤ k) ∧ k ≠ b18)) (fun k hk h=>⟨h,(by have q:=MA18.out.at_; omega)⟩))
      have N_b18 : Hid (¬ AA b18):=by unfold Hid; intro h; have q:=SZA.out b18 h; have q2:=HB_b18.out; omega
      replace HBS:=Lib.hid (HBS.out.ext MA18.out.ext)
      replace Q1:=Lib.hid (Q1.out.ext MA18.out.ext)
      replace Q2:=Lib.hid (Q2.out.ext MA18.out.ext)
      replace Q3:=Lib.hid (Q3.out.ext MA18.out.ext)
      replace C1:=Lib.hid (C1.out.ext MA18.out.ext)
      replace C2:=Lib.hid (C2.out.ext MA18.out.ext)
      replace B_b16:=zmo MA18 B_b16
      have B_b18:=zmb MA18
      replace EXK:=zet EXK MA18
      replace EW:=zet EW MA18
      clear HSS
      have HSS : Hid (wa18.heap[b16]? = some (.cells #[.slice ka0 x.calls.length kc0,I x.at_,.bool x.sent,I x.gen,.slice kx0 x.box.length ky0,.slice kg0 x.got.length kh0] 51 (0,0))):=B_b16.out
      refine held_norm (fun K hK=>?_); go_simp; refine hK _ ?_; clear hK K
      refine held_all 6 (by kernel_rfl) ?_
      refine wpOp_alloc rfl rfl 51 #[.slice none 0 0,I 0,.bool false,I 0,.slice none 0 0,.slice none 0 0] (by kernel_rfl) (fun b17 wa17 MA17=>⟨MA17.out.old B_b16.out,?_⟩)
      have HB_b17 : Hid (w102_.heap.size ≤ b17):=by unfold Hid; have q:=MA17.out.at_; have q3:=EXK.out.size; omega
      have D_b16_b17:=zld B_b16 MA17
      have D_b18_b17:=zld B_b18 MA17
      replace C1:=Lib.hid (C1.out.widen (B:=(fun k=>(AA k ∨ w102_.heap.size ≤ k) ∧ k ≠ b17 ∧ k ≠ b18)) (fun k hk h=>⟨h.1,(by have q:=MA17.out.at_; omega),h.2⟩))
      replace C2:=Lib.hid (C2.out.widen (B:=(fun k=>(AA k ∨ w102_.heap.size ≤ k) ∧ k ≠ b17 ∧ k ≠ b18)) (fun k hk h=>⟨h.1,(by have q:=MA17.out.at_; omega),h.2⟩))
      have N_b17 : Hid (¬ AA b17):=by unfold Hid; intro h; have q:=SZA.out b17 h; have q2:=HB_b17.out; omega
      replace HBS:=Lib.hid (HBS.out.ext MA17.out.ext)
      replace Q1:=Lib.hid (Q1.out.ext MA17.out.ext)
      replace Q2:=Lib.hid (Q2.out.ext MA17.out.ext)
      replace Q3:=Lib.hid (Q3.out.ext MA17.out.ext)
      replace C1:=Lib.hid (C1.out.ext MA17.out.ext)
      replace C2:=Lib.hid (C2.out.ext MA17.out.ext)
      replace B_b16:=zmo MA17 B_b16
      replace B_b18:=zmo MA17 B_b18
      have B_b17:=zmb MA17
      replace EXK:=zet EXK MA17
      replace EW:=zet EW MA17
      clear HSS
      have HSS : Hid (wa17.heap[b16]? = some (.cells #[.slice ka0 x.calls.length kc0,I x.at_,.bool x.sent,I x.gen,.slice kx0 x.box.length ky0,.slice kg0 x.got.length kh0] 51 (0,0))):=B_b16.out
      refine held_norm (fun K hK=>?_); go_simp; refine hK _ ?_; clear hK K
      have NE : Hid (b17 ≠ b18):=(Nat.ne_of_gt D_b18_b17.out)
      refine held_storeW 8 (by kernel_rfl) rfl rfl 51 (.tmp 17) (.tmp 47) rfl b17 rfl [.slice ka1 (comeCn x bs).calls.length kc1,I (comeCn x bs).at_,.bool (comeCn x bs).sent,I (comeCn x bs).gen,.slice kx1 (comeCn x bs).box.length ky1,.slice kg1 (comeCn x bs).got.length kh1] rfl B_b17 rfl (by kernel_rfl) rfl (fun ws8 MS8=>⟨MS8.out.old B_b16.out (Nat.ne_of_lt D_b16_b17.out),?_⟩)
      replace C1:=Lib.hid (MS8.out.rd C1.out (fun h=>h.2.1 rfl))
      replace C2:=Lib.hid (MS8.out.rd C2.out (fun h=>h.2.1 rfl))
      replace B_b16:=zwl MS8 B_b16 D_b16_b17
      replace B_b18:=Lib.hid (MS8.out.old B_b18.out (Ne.symm NE.out))
      replace B_b17:=zwb MS8
      replace EXK:=Lib.hid (MS8.out.ext EXK.out HB_b17.out)
      clear HSS
      have HSS : Hid (ws8.heap[b16]? = some (.cells #[.slice ka0 x.calls.length kc0,I x.at_,.bool x.sent,I x.gen,.slice kx0 x.box.length ky0,.slice kg0 x.got.length kh0] 51 (0,0))):=B_b16.out
      refine held_norm (fun K hK=>?_); go_simp; refine hK _ ?_; clear hK K
      refine held_storeW 9 (by kernel_rfl) rfl rfl 51 (.tmp 18) (.tmp 50) rfl b18 rfl [.slice ka2 (comeCn x bs).calls.length kc2,I (comeCn x bs).at_,.bool (comeCn x bs).sent,I (comeCn x bs).gen,.slice kx2 (comeCn x bs).box.length ky2,.slice kg2 (comeCn x bs).got.length kh2] rfl B_b18 rfl (by kernel_rfl) rfl (fun ws9 MS9=>⟨MS9.out.old B_b16.out (Nat.ne_of_lt D_b16_b18.out),?_⟩)
      replace C1:=Lib.hid (MS9.out.rd C1.out (fun h=>h.2.2 rfl))
      replace C2:=Lib.hid (MS9.out.rd C2.out (fun h=>h.2.2 rfl))
      replace B_b16:=zwl MS9 B_b16 D_b16_b18
      replace B_b17:=Lib.hid (MS9.out.old B_b17.out NE.out)
      replace B_b18:=zwb MS9
      replace EXK:=Lib.hid (MS9.out.ext EXK.out HB_b18.out)
      clear HSS
      have HSS : Hid (ws9.heap[b16]? = some (.cells #[.slice ka0 x.calls.length kc0,I x.at_,.bool x.sent,I x.gen,.slice kx0 x.box.length ky0,.slice kg0 x.got.length kh0] 51 (0,0))):=B_b16.out
      refine held_norm (fun K hK=>?_); go_simp; refine hK _ ?_; clear hK K
      refine wpAnyH_done (by kernel_rfl) ?_ _
      clear HSS
      go_wp2_with fail
      go_meet
      case rel=>exact ⟨b17,b18,_,_,_,_,_,_,_,_,_,_,_,_,rfl,rfl,HB_b17.out,HB_b18.out,NE.out,B_b17.out,B_b18.out,EXK.out,C1.out,C2.out⟩
    ·refine wpOp_alloc rfl rfl 51 #[.slice none 0 0,I 0,.bool false,I 0,.slice none 0 0,.slice none 0 0] (by kernel_rfl) (fun b17 wa17 MA17=>⟨MA17.out.old B_b16.out,?_⟩)
     have HB_b17 : Hid (w102_.heap.size ≤ b17):=by unfold Hid; have q:=MA17.out.at_; have q3:=EXK.out.size; omega
     have D_b16_b17:=zld B_b16 MA17
     replace C1:=Lib.hid (C1.out.widen (B:=(fun k=>(AA k ∨ w102_.heap.size ≤ k) ∧ k ≠ b17)) (fun k hk h=>⟨h,(by have q:=MA17.out.at_; omega)⟩))
     have N_b17 : Hid (¬ AA b17):=by unfold Hid; intro h; have q:=SZA.out b17 h; have q2:=HB_b17.out; omega
     replace HBS:=Lib.hid (HBS.out.ext MA17.out.ext)
     replace Q1:=Lib.hid (Q1.out.ext MA17.out.ext)
     replace Q2:=Lib.hid (Q2.out.ext MA17.out.ext)
     replace Q3:=Lib.hid (Q3.out.ext MA17.out.ext)
     replace C1:=Lib.hid (C1.out.ext MA17.out.ext)
     replace B_b16:=zmo MA17 B_b16
     have B_b17:=zmb MA17
     replace EXK:=zet EXK MA17
     replace EW:=zet EW MA17
     clear HSS
     have HSS : Hid (wa17.heap[b16]? = some (.cells #[.slice ka0 x.calls.length kc0,I x.at_,.bool x.sent,I x.gen,.slice kx0 x.box.length ky0,.slice kg0 x.got.length kh0] 51 (0,0))):=B_b16.out
     refine held_norm (fun K hK=>?_); go_simp; refine hK _ ?_; clear hK K
     refine held_two 5 7 (by kernel_rfl) ?_ ?_
     ·refine wpOp_call rfl rfl 9 #[.agg #[.slice ka0 x.calls.length kc0,I x.at_,.bool x.sent,I x.gen,.slice kx0 x.box.length ky0,.slice kg0 x.got.length kh0],.slice ba bs.length bc] (by go_simp) ?_
      refine (refClientCome_keeps x.calls x.at_ x.sent x.gen x.box x.got _ _ _ _ bs wa17 AA Q1.out Q2.out Q3.out HBS.out (by have q:=GX.out.2; omega)).to fun r wg2 eg hr=>?_
      replace hr : Rd (fun k=>AA k ∨ wa17.heap.size ≤ k) (Agg elCn (comeCn x bs) r) wg2:=hr
      obtain ⟨cs,rfl,hcs⟩:=rd_agg hr
      obtain ⟨x1,x2,x3,rfl,r1,r2,r3⟩:=rd_cn hcs
      obtain ⟨ka2,kc2,rfl⟩:=rowOf_slice r1.out
      obtain ⟨kx2,ky2,rfl⟩:=rowOf_slice r2.out
      obtain ⟨kg2,kh2,rfl⟩:=rowOf_slice r3.out
      have C2 : Hid (Rd (fun k=>(AA k ∨ w102_.heap.size ≤ k) ∧ k ≠ b17) (fun w=>elCn w [.slice ka2 (comeCn x bs).calls.length kc2,I (comeCn x bs).at_,.bool (comeCn x bs).sent,I (comeCn x bs).gen,.slice kx2 (comeCn x bs).box.length ky2,.slice kg2 (comeCn x bs).got.length kh2] (comeCn x bs)) wg2):=hcs.widen fun k _ h=>⟨(by rcases h with h | h; exact .inl h; exact .inr (by have q:=EXK.out.size; omega)),(by rintro rfl; rcases h with h | h; exact N_b17.out h; have q:=(Array.getElem?_eq_some_iff.1 B_b17.out).1; omega)⟩
      clear hr hcs r1 r2 r3
      replace B_b16:=zbx B_b16 eg
      replace B_b17:=zbx B_b17 eg
      replace HBS:=zrx HBS eg
      replace Q1:=zrx Q1 eg
      replace Q2:=zrx Q2 eg
      replace Q3:=zrx Q3 eg
      replace C1:=zrx C1 eg
      replace EW:=Lib.hid (EW.out.trans eg)
      replace EXK:=Lib.hid (EXK.out.trans eg)
      clear HSS eg
      refine ⟨_,rfl,B_b16.out,?_⟩
      have HSS : Hid (wg2.heap[b16]? = some (.cells #[.slice ka0 x.calls.length kc0,I x.at_,.bool x.sent,I x.gen,.slice kx0 x.box.length ky0,.slice kg0 x.got.length kh0] 51 (0,0))):=B_b16.out
      refine held_norm (fun K hK=>?_); go_simp; refine hK _ ?_; clear hK K
      refine held_all 7 (by kernel_rfl) ?_
      refine wpOp_alloc rfl rfl 51 #[.slice none 0 0,I 0,.bool false,I 0,.slice none 0 0,.slice none 0 0] (by kernel_rfl) (fun b18 wa18 MA18=>⟨MA18.out.old B_b16.out,?_⟩)
      have HB_b18 : Hid (w102_.heap.size ≤ b18):=by unfold Hid; have q:=MA18.out.at_; have q3:=EXK.out.size; omega
      have D_b16_b18:=zld B_b16 MA18
      have D_b17_b18:=zld B_b17 MA18
      replace C1:=Lib.hid (C1.out.widen (B:=(fun k=>(AA k ∨ w102_.heap.size ≤ k) ∧ k ≠ b17 ∧ k ≠ b18)) (fun k hk h=>⟨h.1,h.2,(by have q:=MA18.out.at_; omega)⟩))
      replace C2:=Lib.hid (C2.out.widen (B:=(fun k=>(AA k ∨ w102_.heap.size ≤ k) ∧ k ≠ b17 ∧ k ≠ b18)) (fun k hk h=>⟨h.1,h.2,(by have q:=MA18.out.at_; omega)⟩))
      have N_b18 : Hid (¬ AA b18):=by unfold Hid; intro h; have q:=SZA.out b18 h; have q2:=HB_b18.out; omega
      replace HBS:=Lib.hid (HBS.out.ext MA18.out.ext)
      replace Q1:=Lib.hid (Q1.out.ext MA18.out.ext)
      replace Q2:=Lib.hid (Q2.out.ext MA18.out.ext)
      replace Q3:=Lib.hid (Q3.out.ext MA18.out.ext)
      replace C1:=Lib.hid (C1.out.ext MA18.out.ext)
      replace C2:=Lib.hid (C2.out.ext MA18.out.ext)
      replace B_b16:=zmo MA18 B_b16
      replace B_b17:=zmo MA18 B_b17
      have B_b18:=zmb MA18
      replace EXK:=zet EXK MA18
      replace EW:=zet EW MA18
      clear HSS
      have HSS : Hid (wa18.heap[b16]? = some (.cells #[.slice ka0 x.calls.length kc0,I x.at_,.bool x.sent,I x.gen,.slice kx0 x.box.length ky0,.slice kg0 x.got.length kh0] 51 (0,0))):=B_b16.out
      refine held_norm (fun K hK=>?_); go_simp; refine hK _ ?_; clear hK K
      have NE : Hid (b17 ≠ b18):=(Nat.ne_of_lt D_b17_b18.out)
      refine held_storeW 8 (by kernel_rfl) rfl rfl 51 (.tmp 17) (.tmp 47) rfl b17 rfl [.slice ka1 (comeCn x bs).calls.length kc1,I (comeCn x bs).at_,.bool (comeCn x bs).sent,I (comeCn x bs).gen,.slice kx1 (comeCn x bs).box.length ky1,.slice kg1 (comeCn x bs).got.length kh1] rfl B_b17 rfl (by kernel_rfl) rfl (fun ws8 MS8=>⟨MS8.out.old B_b16.out (Nat.ne_of_lt D_b16_b17.out),?_⟩)
      replace C1:=Lib.hid (MS8.out.rd C1.out (fun h=>h.2.1 rfl))
      replace C2:=Lib.hid (MS8.out.rd C2.out (fun h=>h.2.1 rfl))
      replace B_b16:=zwl MS8 B_b16 D_b16_b17
      replace B_b18:=Lib.hid (MS8.out.old B_b18.out (Ne.symm NE.out))
      replace B_b17:=zwb MS8
      replace EXK:=Lib.hid (MS8.out.ext EXK.out HB_b17.out)
      clear HSS
      have HSS : Hid (ws8.heap[b16]? = some (.cells #[.slice ka0 x.calls.length kc0,I x.at_,.bool x.sent,I x.gen,.slice kx0 x.box.length ky0,.slice kg0 x.got.length kh0] 51 (0,0))):=B_b16.out
      refine held_norm (fun K hK=>?_); go_simp; refine hK _ ?_; clear hK K
      refine held_storeW 9 (by kernel_rfl) rfl rfl 51 (.tmp 18) (.tmp 50) rfl b18 rfl [.slice ka2 (comeCn x bs).calls.length kc2,I (comeCn x bs).at_,.bool (comeCn x bs).sent,I (comeCn x bs).gen,.slice kx2 (comeCn x bs).box.length ky2,.slice kg2 (comeCn x bs).got.length kh2] rfl B_b18 rfl (by kernel_rfl) rfl (fun ws9 MS9=>⟨MS9.out.old B_b16.out (Nat.ne_of_lt D_b16_b18.out),?_⟩)
      replace C1:=Lib.hid (MS9.out.rd C1.out (fun h=>h.2.2 rfl))
      replace C2:=Lib.hid (MS9.out.rd C2.out (fun h=>h.2.2 rfl))
      replace B_b16:=zwl MS9 B_b16 D_b16_b18
      replace B_b17:=Lib.hid (MS9.out.old B_b17.out NE.out)
      replace B_b18:=zwb MS9
      replace EXK:=Lib.hid (MS9.out.ext EXK.out HB_b18.out)
      clear HSS
      have HSS : Hid (ws9.heap[b16]? = some (.cells #[.slice ka0 x.calls.length kc0,I x.at_,.bool x.sent,I x.gen,.slice kx0 x.box.length ky0,.slice kg0 x.got.length kh0] 51 (0,0))):=B_b16.out
      refine held_norm (fun K hK=>?_); go_simp; refine hK _ ?_; clear hK K
      refine wpAnyH_done (by kernel_rfl) ?_ _
      clear HSS
      go_wp2_with fail
      go_meet
      case rel=>exact ⟨b17,b18,_,_,_,_,_,_,_,_,_,_,_,_,rfl,rfl,HB_b17.out,HB_b18.out,NE.out,B_b17.out,B_b18.out,EXK.out,C1.out,C2.out⟩
     ·refine wpOp_alloc rfl rfl 51 #[.slice none 0 0,I 0,.bool false,I 0,.slice none 0 0,.slice none 0 0] (by kernel_rfl) (fun b18 wa18 MA18=>⟨MA18.out.old B_b16.out,?_⟩)
      have HB_b18 : Hid (w102_.heap.size ≤ b18):=by unfold Hid; have q:=MA18.out.at_; have q3:=EXK.out.size; omega
      have D_b16_b18:=zld B_b16 MA18
      have D_b17_b18:=zld B_b17 MA18
      replace C1:=Lib.hid (C1.out.widen (B:=(fun k=>(AA k ∨ w102_.heap.size ≤ k) ∧ k ≠ b17 ∧ k ≠ b18)) (fun k hk h=>⟨h.1,h.2,(by have q:=MA18.out.at_; omega)⟩))
      have N_b18 : Hid (¬ AA b18):=by unfold Hid; intro h; have q:=SZA.out b18 h; have q2:=HB_b18.out; omega
      replace HBS:=Lib.hid (HBS.out.ext MA18.out.ext)
      replace Q1:=Lib.hid (Q1.out.ext MA18.out.ext)
      replace Q2:=Lib.hid (Q2.out.ext MA18.out.ext)
      replace Q3:=Lib.hid (Q3.out.ext MA18.out.ext)
      replace C1:=Lib.hid (C1.out.ext MA18.out.ext)
      replace B_b16:=zmo MA18 B_b16
      replace B_b17:=zmo MA18 B_b17
      have B_b18:=zmb MA18
      replace EXK:=zet EXK MA18
      replace EW:=zet EW MA18
      clear HSS
      have HSS : Hid (wa18.heap[b16]? = some (.cells #[.slice ka0 x.calls.length kc0,I x.at_,.bool x.sent,I x.gen,.slice kx0 x.box.length ky0,.slice kg0 x.got.length kh0] 51 (0,0))):=B_b16.out
      refine held_norm (fun K hK=>?_); go_simp; refine hK _ ?_; clear hK K
      refine held_all 5 (by kernel_rfl) ?_
      refine wpOp_call rfl rfl 9 #[.agg #[.slice ka0 x.calls.length kc0,I x.at_,.bool x.sent,I x.gen,.slice kx0 x.box.length ky0,.slice kg0 x.got.length kh0],.slice ba bs.length bc] (by go_simp) ?_
      refine (refClientCome_keeps x.calls x.at_ x.sent x.gen x.box x.got _ _ _ _ bs wa18 AA Q1.out Q2.out Q3.out HBS.out (by have q:=GX.out.2; omega)).to fun r wg2 eg hr=>?_
      replace hr : Rd (fun k=>AA k ∨ wa18.heap.size ≤ k) (Agg elCn (comeCn x bs) r) wg2:=hr
      obtain ⟨cs,rfl,hcs⟩:=rd_agg hr
      obtain ⟨x1,x2,x3,rfl,r1,r2,r3⟩:=rd_cn hcs
      obtain ⟨ka2,kc2,rfl⟩:=rowOf_slice r1.out
      obtain ⟨kx2,ky2,rfl⟩:=rowOf_slice r2.out
      obtain ⟨kg2,kh2,rfl⟩:=rowOf_slice r3.out
      have C2 : Hid (Rd (fun k=>(AA k ∨ w102_.heap.size ≤ k) ∧ k ≠ b17 ∧ k ≠ b18) (fun w=>elCn w [.slice ka2 (comeCn x bs).calls.length kc2,I (comeCn x bs).at_,.bool (comeCn x bs).sent,I (comeCn x bs).gen,.slice kx2 (comeCn x bs).box.length ky2,.slice kg2 (comeCn x bs).got.length kh2] (comeCn x bs)) wg2):=hcs.widen fun k _ h=>⟨(by rcases h with h | h; exact .inl h; exact .inr (by have q:=EXK.out.size; omega)),(by rintro rfl; rcases h with h | h; exact N_b17.out h; have q:=(Array.getElem?_eq_some_iff.1 B_b17.out).1; omega),(by rintro rfl; rcases h with h | h; exact N_b18.out h; have q:=(Array.getElem?_eq_some_iff.1 B_b18.out).1; omega)⟩
      clear hr hcs r1 r2 r3
      replace B_b16:=zbx B_b16 eg
      replace B_b17:=zbx B_b17 eg
      replace B_b18:=zbx B_b18 eg
      replace HBS:=zrx HBS eg
      replace Q1:=zrx Q1 eg
      replace Q2:=zrx Q2 eg
      replace Q3:=zrx Q3 eg
      replace C1:=zrx C1 eg
      replace EW:=Lib.hid (EW.out.trans eg)
      replace EXK:=Lib.hid (EXK.out.trans eg)
      clear HSS eg
      refine ⟨_,rfl,B_b16.out,?_⟩
      have HSS : Hid (wg2.heap[b16]? = some (.cells #[.slice ka0 x.calls.length kc0,I x.at_,.bool x.sent,I x.gen,.slice kx0 x.box.length ky0,.slice kg0 x.got.length kh0] 51 (0,0))):=B_b16.out
      refine held_norm (fun K hK=>?_); go_simp; refine hK _ ?_; clear hK K
      have NE : Hid (b17 ≠ b18):=(Nat.ne_of_lt D_b17_b18.out)
      refine held_storeW 8 (by kernel_rfl) rfl rfl 51 (.tmp 17) (.tmp 47) rfl b17 rfl [.slice ka1 (comeCn x bs).calls.length kc1,I (comeCn x bs).at_,.bool (comeCn x bs).sent,I (comeCn x bs).gen,.slice kx1 (comeCn x bs).box.length ky1,.slice kg1 (comeCn x bs).got.length kh1] rfl B_b17 rfl (by kernel_rfl) rfl (fun ws8 MS8=>⟨MS8.out.old B_b16.out (Nat.ne_of_lt D_b16_b17.out),?_⟩)
      replace C1:=Lib.hid (MS8.out.rd C1.out (fun h=>h.2.1 rfl))
      replace C2:=Lib.hid (MS8.out.rd C2.out (fun h=>h.2.1 rfl))
      replace B_b16:=zwl MS8 B_b16 D_b16_b17
      replace B_b18:=Lib.hid (MS8.out.old B_b18.out (Ne.symm NE.out))
      replace B_b17:=zwb MS8
      replace EXK:=Lib.hid (MS8.out.ext EXK.out HB_b17.out)
      clear HSS
      have HSS : Hid (ws8.heap[b16]? = some (.cells #[.slice ka0 x.calls.length kc0,I x.at_,.bool x.sent,I x.gen,.slice kx0 x.box.length ky0,.slice kg0 x.got.length kh0] 51 (0,0))):=B_b16.out
      refine held_norm (fun K hK=>?_); go_simp; refine hK _ ?_; clear hK K
      refine held_storeW 9 (by kernel_rfl) rfl rfl 51 (.tmp 18) (.tmp 50) rfl b18 rfl [.slice ka2 (comeCn x bs).calls.length kc2,I (comeCn x bs).at_,.bool (comeCn x bs).sent,I (comeCn x bs).gen,.slice kx2 (comeCn x bs).box.length ky2,.slice kg2 (comeCn x bs).got.length kh2] rfl B_b18 rfl (by kernel_rfl) rfl (fun ws9 MS9=>⟨MS9.out.old B_b16.out (Nat.ne_of_lt D_b16_b18.out),?_⟩)
      replace C1:=Lib.hid (MS9.out.rd C1.out (fun h=>h.2.2 rfl))
      replace C2:=Lib.hid (MS9.out.rd C2.out (fun h=>h.2.2 rfl))
      replace B_b16:=zwl MS9 B_b16 D_b16_b18
      replace B_b17:=Lib.hid (MS9.out.old B_b17.out NE.out)
      replace B_b18:=zwb MS9
      replace EXK:=Lib.hid (MS9.out.ext EXK.out HB_b18.out)
      clear HSS
      have HSS : Hid (ws9.heap[b16]? = some (.cells #[.slice ka0 x.calls.length kc0,I x.at_,.bool x.sent,I x.gen,.slice kx0 x.box.length ky0,.slice kg0 x.got.length kh0] 51 (0,0))):=B_b16.out
      refine held_norm (fun K hK=>?_); go_simp; refine hK _ ?_; clear hK K
      refine wpAnyH_done (by kernel_rfl) ?_ _
      clear HSS
      go_wp2_with fail
      go_meet
      case rel=>exact ⟨b17,b18,_,_,_,_,_,_,_,_,_,_,_,_,rfl,rfl,HB_b17.out,HB_b18.out,NE.out,B_b17.out,B_b18.out,EXK.out,C1.out,C2.out⟩
    ·refine wpOp_alloc rfl rfl 51 #[.slice none 0 0,I 0,.bool false,I 0,.slice none 0 0,.slice none 0 0] (by kernel_rfl) (fun b18 wa18 MA18=>⟨MA18.out.old B_b16.out,?_⟩)
     have HB_b18 : Hid (w102_.heap.size ≤ b18):=by unfold Hid; have q:=MA18.out.at_; have q3:=EXK.out.size; omega
     have D_b16_b18:=zld B_b16 MA18
     replace C1:=Lib.hid (C1.out.widen (B:=(fun k=>(AA k ∨ w102_.heap.size ≤ k) ∧ k ≠ b18)) (fun k hk h=>⟨h,(by have q:=MA18.out.at_; omega)⟩))
     have N_b18 : Hid (¬ AA b18):=by unfold Hid; intro h; have q:=SZA.out b18 h; have q2:=HB_b18.out; omega
     replace HBS:=Lib.hid (HBS.out.ext MA18.out.ext)
     replace Q1:=Lib.hid (Q1.out.ext MA18.out.ext)
     replace Q2:=Lib.hid (Q2.out.ext MA18.out.ext)
     replace Q3:=Lib.hid (Q3.out.ext MA18.out.ext)
     replace C1:=Lib.hid (C1.out.ext MA18.out.ext)
     replace B_b16:=zmo MA18 B_b16
     have B_b18:=zmb MA18
     replace EXK:=zet EXK MA18
     replace EW:=zet EW MA18
     clear HSS
     have HSS : Hid (wa18.heap[b16]? = some (.cells #[.slice ka0 x.calls.length kc0,I x.at_,.bool x.sent,I x.gen,.slice kx0 x.box.length ky0,.slice kg0 x.got.length kh0] 51 (0,0))):=B_b16.out
     refine held_norm (fun K hK=>?_); go_simp; refine hK _ ?_; clear hK K
     refine held_two 5 6 (by kernel_rfl) ?_ ?_
     ·refine wpOp_call rfl rfl 9 #[.agg #[.slice ka0 x.calls.length kc0,I x.at_,.bool x.sent,I x.gen,.slice kx0 x.box.length ky0,.slice kg0 x.got.length kh0],.slice ba bs.length bc] (by go_simp) ?_
      refine (refClientCome_keeps x.calls x.at_ x.sent x.gen x.box x.got _ _ _ _ bs wa18 AA Q1.out Q2.out Q3.out HBS.out (by have q:=GX.out.2; omega)).to fun r wg2 eg hr=>?_
      replace hr : Rd (fun k=>AA k ∨ wa18.heap.size ≤ k) (Agg elCn (comeCn x bs) r) wg2:=hr
      obtain ⟨cs,rfl,hcs⟩:=rd_agg hr
      obtain ⟨x1,x2,x3,rfl,r1,r2,r3⟩:=rd_cn hcs
      obtain ⟨ka2,kc2,rfl⟩:=rowOf_slice r1.out
      obtain ⟨kx2,ky2,rfl⟩:=rowOf_slice r2.out
      obtain ⟨kg2,kh2,rfl⟩:=rowOf_slice r3.out
      have C2 : Hid (Rd (fun k=>(AA k ∨ w102_.heap.size ≤ k) ∧ k ≠ b18) (fun w=>elCn w [.slice ka2 (comeCn x bs).calls.length kc2,I (comeCn x bs).at_,.bool (comeCn x bs).sent,I (comeCn x bs).gen,.slice kx2 (comeCn x bs).box.length ky2,.slice kg2 (comeCn x bs).got.length kh2] (comeCn x bs)) wg2):=hcs.widen fun k _ h=>⟨(by rcases h with h | h; exact .inl h; exact .inr (by have q:=EXK.out.size; omega)),(by rintro rfl; rcases h with h | h; exact N_b18.out h; have q:=(Array.getElem?_eq_some_iff.1 B_b18.out).1; omega)⟩
      clear hr hcs r1 r2 r3
      replace B_b16:=zbx B_b16 eg
      replace B_b18:=zbx B_b18 eg
      replace HBS:=zrx HBS eg
      replace Q1:=zrx Q1 eg
      replace Q2:=zrx Q2 eg
      replace Q3:=zrx Q3 eg
      replace C1:=zrx C1 eg
      replace EW:=Lib.hid (EW.out.trans eg)
      replace EXK:=Lib.hid (EXK.out.trans eg)
      clear HSS eg
      refine ⟨_,rfl,B_b16.out,?_⟩
      have HSS : Hid (wg2.heap[b16]? = some (.cells #[.slice ka0 x.calls.length kc0,I x.at_,.bool x.sent,I x.gen,.slice kx0 x.box.length ky0,.slice kg0 x.got.length kh0] 51 (0,0))):=B_b16.out
      refine held_norm (fun K hK=>?_); go_simp; refine hK _ ?_; clear hK K
      refine held_all 6 (by kernel_rfl) ?_
      refine wpOp_alloc rfl rfl 51 #[.slice none 0 0,I 0,.bool false,I 0,.slice none 0 0,.slice none 0 0] (by kernel_rfl) (fun b17 wa17 MA17=>⟨MA17.out.old B_b16.out,?_⟩)
      have HB_b17 : Hid (w102_.heap.size ≤ b17):=by unfold Hid; have q:=MA17.out.at_; have q3:=EXK.out.size; omega
      have D_b16_b17:=zld B_b16 MA17
      have D_b18_b17:=zld B_b18 MA17
      replace C1:=Lib.hid (C1.out.widen (B:=(fun k=>(AA k ∨ w102_.heap.size ≤ k) ∧ k ≠ b17 ∧ k ≠ b18)) (fun k hk h=>⟨h.1,(by have q:=MA17.out.at_; omega),h.2⟩))
      replace C2:=Lib.hid (C2.out.widen (B:=(fun k=>(AA k ∨ w102_.heap.size ≤ k) ∧ k ≠ b17 ∧ k ≠ b18)) (fun k hk h=>⟨h.1,(by have q:=MA17.out.at_; omega),h.2⟩))
      have N_b17 : Hid (¬ AA b17):=by unfold Hid; intro h; have q:=SZA.out b17 h; have q2:=HB_b17.out; omega
      replace HBS:=Lib.hid (HBS.out.ext MA17.out.ext)
      replace Q1:=Lib.hid (Q1.out.ext MA17.out.ext)
      replace Q2:=Lib.hid (Q2.out.ext MA17.out.ext)
      replace Q3:=Lib.hid (Q3.out.ext MA17.out.ext)
      replace C1:=Lib.hid (C1.out.ext MA17.out.ext)
      replace C2:=Lib.hid (C2.out.ext MA17.out.ext)
      replace B_b16:=zmo MA17 B_b16
      replace B_b18:=zmo MA17 B_b18
      have B_b17:=zmb MA17
      replace EXK:=zet EXK MA17
      replace EW:=zet EW MA17
      clear HSS
      have HSS : Hid (wa17.heap[b16]? = some (.cells #[.slice ka0 x.calls.length kc0,I x.at_,.bool x.sent,I x.gen,.slice kx0 x.box.length ky0,.slice kg0 x.got.length kh0] 51 (0,0))):=B_b16.out
      refine held_norm (fun K hK=>?_); go_simp; refine hK _ ?_; clear hK K
      have NE : Hid (b17 ≠ b18):=(Nat.ne_of_gt D_b18_b17.out)
      refine held_storeW 8 (by kernel_rfl) rfl rfl 51 (.tmp 17) (.tmp 47) rfl b17 rfl [.slice ka1 (comeCn x bs).calls.length kc1,I (comeCn x bs).at_,.bool (comeCn x bs).sent,I (comeCn x bs).gen,.slice kx1 (comeCn x bs).box.length ky1,.slice kg1 (comeCn x bs).got.length kh1] rfl B_b17 rfl (by kernel_rfl) rfl (fun ws8 MS8=>⟨MS8.out.old B_b16.out (Nat.ne_of_lt D_b16_b17.out),?_⟩)
      replace C1:=Lib.hid (MS8.out.rd C1.out (fun h=>h.2.1 rfl))
      replace C2:=Lib.hid (MS8.out.rd C2.out (fun h=>h.2.1 rfl))
      replace B_b16:=zwl MS8 B_b16 D_b16_b17
      replace B_b18:=Lib.hid (MS8.out.old B_b18.out (Ne.symm NE.out))
      replace B_b17:=zwb MS8
      replace EXK:=Lib.hid (MS8.out.ext EXK.out HB_b17.out)
      clear HSS
      have HSS : Hid (ws8.heap[b16]? = some (.cells #[.slice ka0 x.calls.length kc0,I x.at_,.bool x.sent,I x.gen,.slice kx0 x.box.length ky0,.slice kg0 x.got.length kh0] 51 (0,0))):=B_b16.out
      refine held_norm (fun K hK=>?_); go_simp; refine hK _ ?_; clear hK K
      refine held_storeW 9 (by kernel_rfl) rfl rfl 51 (.tmp 18) (.tmp 50) rfl b18 rfl [.slice ka2 (comeCn x bs).calls.length kc2,I (comeCn x bs).at_,.bool (comeCn x bs).sent,I (comeCn x bs).gen,.slice kx2 (comeCn x bs).box.length ky2,.slice kg2 (comeCn x bs).got.length kh2] rfl B_b18 rfl (by kernel_rfl) rfl (fun ws9 MS9=>⟨MS9.out.old B_b16.out (Nat.ne_of_lt D_b16_b18.out),?_⟩)
      replace C1:=Lib.hid (MS9.out.rd C1.out (fun h=>h.2.2 rfl))
      replace C2:=Lib.hid (MS9.out.rd C2.out (fun h=>h.2.2 rfl))
      replace B_b16:=zwl MS9 B_b16 D_b16_b18
      replace B_b17:=Lib.hid (MS9.out.old B_b17.out NE.out)
      replace B_b18:=zwb MS9
      replace EXK:=Lib.hid (MS9.out.ext EXK.out HB_b18.out)
      clear HSS
      have HSS : Hid (ws9.heap[b16]? = some (.cells #[.slice ka0 x.calls.length kc0,I x.at_,.bool x.sent,I x.gen,.slice kx0 x.box.length ky0,.slice kg0 x.got.length kh0] 51 (0,0))):=B_b16.out
      refine held_norm (fun K hK=>?_); go_simp; refine hK _ ?_; clear hK K
      refine wpAnyH_done (by kernel_rfl) ?_ _
      clear HSS
      go_wp2_with fail
      go_meet
      case rel=>exact ⟨b17,b18,_,_,_,_,_,_,_,_,_,_,_,_,rfl,rfl,HB_b17.out,HB_b18.out,NE.out,B_b17.out,B_b18.out,EXK.out,C1.out,C2.out⟩
     ·refine wpOp_alloc rfl rfl 51 #[.slice none 0 0,I 0,.bool false,I 0,.slice none 0 0,.slice none 0 0] (by kernel_rfl) (fun b17 wa17 MA17=>⟨MA17.out.old B_b16.out,?_⟩)
      have HB_b17 : Hid (w102_.heap.size ≤ b17):=by unfold Hid; have q:=MA17.out.at_; have q3:=EXK.out.size; omega
      have D_b16_b17:=zld B_b16 MA17
      have D_b18_b17:=zld B_b18 MA17
      replace C1:=Lib.hid (C1.out.widen (B:=(fun k=>(AA k ∨ w102_.heap.size ≤ k) ∧ k ≠ b17 ∧ k ≠ b18)) (fun k hk h=>⟨h.1,(by have q:=MA17.out.at_; omega),h.2⟩))
      have N_b17 : Hid (¬ AA b17):=by unfold Hid; intro h; have q:=SZA.out b17 h; have q2:=HB_b17.out; omega
      replace HBS:=Lib.hid (HBS.out.ext MA17.out.ext)
      replace Q1:=Lib.hid (Q1.out.ext MA17.out.ext)
      replace Q2:=Lib.hid (Q2.out.ext MA17.out.ext)
      replace Q3:=Lib.hid (Q3.out.ext MA17.out.ext)
      replace C1:=Lib.hid (C1.out.ext MA17.out.ext)
      replace B_b16:=zmo MA17 B_b16
      replace B_b18:=zmo MA17 B_b18
      have B_b17:=zmb MA17
      replace EXK:=zet EXK MA17
      replace EW:=zet EW MA17
      clear HSS
      have HSS : Hid (wa17.heap[b16]? = some (.cells #[.slice ka0 x.calls.length kc0,I x.at_,.bool x.sent,I x.gen,.slice kx0 x.box.length ky0,.slice kg0 x.got.length kh0] 51 (0,0))):=B_b16.out
      refine held_norm (fun K hK=>?_); go_simp; refine hK _ ?_; clear hK K
      refine held_all 5 (by kernel_rfl) ?_
      refine wpOp_call rfl rfl 9 #[.agg #[.slice ka0 x.calls.length kc0,I x.at_,.bool x.sent,I x.gen,.slice kx0 x.box.length ky0,.slice kg0 x.got.length kh0],.slice ba bs.length bc] (by go_simp) ?_
      refine (refClientCome_keeps x.calls x.at_ x.sent x.gen x.box x.got _ _ _ _ bs wa17 AA Q1.out Q2.out Q3.out HBS.out (by have q:=GX.out.2; omega)).to fun r wg2 eg hr=>?_
      replace hr : Rd (fun k=>AA k ∨ wa17.heap.size ≤ k) (Agg elCn (comeCn x bs) r) wg2:=hr
      obtain ⟨cs,rfl,hcs⟩:=rd_agg hr
      obtain ⟨x1,x2,x3,rfl,r1,r2,r3⟩:=rd_cn hcs
      obtain ⟨ka2,kc2,rfl⟩:=rowOf_slice r1.out
      obtain ⟨kx2,ky2,rfl⟩:=rowOf_slice r2.out
      obtain ⟨kg2,kh2,rfl⟩:=rowOf_slice r3.out
      have C2 : Hid (Rd (fun k=>(AA k ∨ w102_.heap.size ≤ k) ∧ k ≠ b17 ∧ k ≠ b18) (fun w=>elCn w [.slice ka2 (comeCn x bs).calls.length kc2,I (comeCn x bs).at_,.bool (comeCn x bs).sent,I (comeCn x bs).gen,.slice kx2 (comeCn x bs).box.length ky2,.slice kg2 (comeCn x bs).got.length kh2] (comeCn x bs)) wg2):=hcs.widen fun k _ h=>⟨(by rcases h with h | h; exact .inl h; exact .inr (by have q:=EXK.out.size; omega)),(by rintro rfl; rcases h with h | h; exact N_b17.out h; have q:=(Array.getElem?_eq_some_iff.1 B_b17.out).1; omega),(by rintro rfl; rcases h with h | h; exact N_b18.out h; have q:=(Array.getElem?_eq_some_iff.1 B_b18.out).1; omega)⟩
      clear hr hcs r1 r2 r3
      replace B_b16:=zbx B_b16 eg
      replace B_b18:=zbx B_b18 eg
      replace B_b17:=zbx B_b17 eg
      replace HBS:=zrx HBS eg
      replace Q1:=zrx Q1 eg
      replace Q2:=zrx Q2 eg
      replace Q3:=zrx Q3 eg
      replace C1:=zrx C1 eg
      replace EW:=Lib.hid (EW.out.trans eg)
      replace EXK:=Lib.hid (EXK.out.trans eg)
      clear HSS eg
      refine ⟨_,rfl,B_b16.out,?_⟩
      have HSS : Hid (wg2.heap[b16]? = some (.cells #[.slice ka0 x.calls.length kc0,I x.at_,.bool x.sent,I x.gen,.slice kx0 x.box.length ky0,.slice kg0 x.got.length kh0] 51 (0,0))):=B_b16.out
      refine held_norm (fun K hK=>?_); go_simp; refine hK _ ?_; clear hK K
      have NE : Hid (b17 ≠ b18):=(Nat.ne_of_gt D_b18_b17.out)
      refine held_storeW 8 (by kernel_rfl) rfl rfl 51 (.tmp 17) (.tmp 47) rfl b17 rfl [.slice ka1 (comeCn x bs).calls.length kc1,I (comeCn x bs).at_,.bool (comeCn x bs).sent,I (comeCn x bs).gen,.slice kx1 (comeCn x bs).box.length ky1,.slice kg1 (comeCn x bs).got.length kh1] rfl B_b17 rfl (by kernel_rfl) rfl (fun ws8 MS8=>⟨MS8.out.old B_b16.out (Nat.ne_of_lt D_b16_b17.out),?_⟩)
      replace C1:=Lib.hid (MS8.out.rd C1.out (fun h=>h.2.1 rfl))
      replace C2:=Lib.hid (MS8.out.rd C2.out (fun h=>h.2.1 rfl))
      replace B_b16:=zwl MS8 B_b16 D_b16_b17
      replace B_b18:=Lib.hid (MS8.out.old B_b18.out (Ne.symm NE.out))
      replace B_b17:=zwb MS8
      replace EXK:=Lib.hid (MS8.out.ext EXK.out HB_b17.out)
      clear HSS
      have HSS : Hid (ws8.heap[b16]? = some (.cells #[.slice ka0 x.calls.length kc0,I x.at_,.bool x.sent,I x.gen,.slice kx0 x.box.length ky0,.slice kg0 x.got.length kh0] 51 (0,0))):=B_b16.out
      refine held_norm (fun K hK=>?_); go_simp; refine hK _ ?_; clear hK K
      refine held_storeW 9 (by kernel_rfl) rfl rfl 51 (.tmp 18) (.tmp 50) rfl b18 rfl [.slice ka2 (comeCn x bs).calls.length kc2,I (comeCn x bs).at_,.bool (comeCn x bs).sent,I (comeCn x bs).gen,.slice kx2 (comeCn x bs).box.length ky2,.slice kg2 (comeCn x bs).got.length kh2] rfl B_b18 rfl (by kernel_rfl) rfl (fun ws9 MS9=>⟨MS9.out.old B_b16.out (Nat.ne_of_lt D_b16_b18.out),?_⟩)
      replace C1:=Lib.hid (MS9.out.rd C1.out (fun h=>h.2.2 rfl))
      replace C2:=Lib.hid (MS9.out.rd C2.out (fun h=>h.2.2 rfl))
      replace B_b16:=zwl MS9 B_b16 D_b16_b18
      replace B_b17:=Lib.hid (MS9.out.old B_b17.out NE.out)
      replace B_b18:=zwb MS9
      replace EXK:=Lib.hid (MS9.out.ext EXK.out HB_b18.out)
      clear HSS
      have HSS : Hid (ws9.heap[b16]? = some (.cells #[.slice ka0 x.calls.length kc0,I x.at_,.bool x.sent,I x.gen,.slice kx0 x.box.length ky0,.slice kg0 x.got.length kh0] 51 (0,0))):=B_b16.out
      refine held_norm (fun K hK=>?_); go_simp; refine hK _ ?_; clear hK K
      refine wpAnyH_done (by kernel_rfl) ?_ _
      clear HSS
      go_wp2_with fail
      go_meet
      case rel=>exact ⟨b17,b18,_,_,_,_,_,_,_,_,_,_,_,_,rfl,rfl,HB_b17.out,HB_b18.out,NE.out,B_b17.out,B_b18.out,EXK.out,C1.out,C2.out⟩
   ·refine wpOp_alloc rfl rfl 51 #[.slice none 0 0,I 0,.bool false,I 0,.slice none 0 0,.slice none 0 0] (by kernel_rfl) (fun b17 wa17 MA17=>⟨MA17.out.old B_b16.out,?_⟩)
    have HB_b17 : Hid (w102_.heap.size ≤ b17):=by unfold Hid; have q:=MA17.out.at_; have q3:=EXK.out.size; omega
    have D_b16_b17:=zld B_b16 MA17
    have N_b17 : Hid (¬ AA b17):=by unfold Hid; intro h; have q:=SZA.out b17 h; have q2:=HB_b17.out; omega
    replace HBS:=Lib.hid (HBS.out.ext MA17.out.ext)
    replace Q1:=Lib.hid (Q1.out.ext MA17.out.ext)
    replace Q2:=Lib.hid (Q2.out.ext MA17.out.ext)
    replace Q3:=Lib.hid (Q3.out.ext MA17.out.ext)
    replace B_b16:=zmo MA17 B_b16
    have B_b17:=zmb MA17
    replace EXK:=zet EXK MA17
    replace EW:=zet EW MA17
    clear HSS
    have HSS : Hid (wa17.heap[b16]? = some (.cells #[.slice ka0 x.calls.length kc0,I x.at_,.bool x.sent,I x.gen,.slice kx0 x.box.length ky0,.slice kg0 x.got.length kh0] 51 (0,0))):=B_b16.out
    refine held_norm (fun K hK=>?_); go_simp; refine hK _ ?_; clear hK K
    refine held_two 2 7 (by kernel_rfl) ?_ ?_
    ·refine wpOp_call rfl rfl 8 #[.agg #[.slice ka0 x.calls.length kc0,I x.at_,.bool x.sent,I x.gen,.slice kx0 x.box.length ky0,.slice kg0 x.got.length kh0],.slice ba bs.length bc] (by go_simp) ?_
     refine (HCO.out x _ _ _ _ bs wa17 AA Q1.out Q2.out Q3.out HBS.out GX.out.1 HR.out).to fun r wg1 eg hr=>?_
     replace hr : Rd (fun k=>AA k ∨ wa17.heap.size ≤ k) (Agg elCn (comeCn x bs) r) wg1:=hr
     obtain ⟨cs,rfl,hcs⟩:=rd_agg hr
     obtain ⟨x1,x2,x3,rfl,r1,r2,r3⟩:=rd_cn hcs
     obtain ⟨ka1,kc1,rfl⟩:=rowOf_slice r1.out
     obtain ⟨kx1,ky1,rfl⟩:=rowOf_slice r2.out
     obtain ⟨kg1,kh1,rfl⟩:=rowOf_slice r3.out
     have C1 : Hid (Rd (fun k=>(AA k ∨ w102_.heap.size ≤ k) ∧ k ≠ b17) (fun w=>elCn w [.slice ka1 (comeCn x bs).calls.length kc1,I (comeCn x bs).at_,.bool (comeCn x bs).sent,I (comeCn x bs).gen,.slice kx1 (comeCn x bs).box.length ky1,.slice kg1 (comeCn x bs).got.length kh1] (comeCn x bs)) wg1):=hcs.widen fun k _ h=>⟨(by rcases h with h | h; exact .inl h; exact .inr (by have q:=EXK.out.size; omega)),(by rintro rfl; rcases h with h | h; exact N_b17.out h; have q:=(Array.getElem?_eq_some_iff.1 B_b17.out).1; omega)⟩
     clear hr hcs r1 r2 r3
     replace B_b16:=zbx B_b16 eg
     replace B_b17:=zbx B_b17 eg
     replace HBS:=zrx HBS eg
     replace Q1:=zrx Q1 eg
     replace Q2:=zrx Q2 eg
     replace Q3:=zrx Q3 eg
     replace EW:=Lib.hid (EW.out.trans eg)
     replace EXK:=Lib.hid (EXK.out.trans eg)
     clear HSS eg
     refine ⟨_,rfl,B_b16.out,?_⟩
     have HSS : Hid (wg1.heap[b16]? = some (.cells #[.slice ka0 x.calls.length kc0,I x.at_,.bool x.sent,I x.gen,.slice kx0 x.box.length ky0,.slice kg0 x.got.length kh0] 51 (0,0))):=B_b16.out
     refine held_norm (fun K hK=>?_); go_simp; refine hK _ ?_; clear hK K
     refine held_two 5 7 (by kernel_rfl) ?_ ?_
     ·refine wpOp_call rfl rfl 9 #[.agg #[.slice ka0 x.calls.length kc0,I x.at_,.bool x.sent,I x.gen,.slice kx0 x.box.length ky0,.slice kg0 x.got.length kh0],.slice ba bs.length bc] (by go_simp) ?_
      refine (refClientCome_keeps x.calls x.at_ x.sent x.gen x.box x.got _ _ _ _ bs wg1 AA Q1.out Q2.out Q3.out HBS.out (by have q:=GX.out.2; omega)).to fun r wg2 eg hr=>?_
      replace hr : Rd (fun k=>AA k ∨ wg1.heap.size ≤ k) (Agg elCn (comeCn x bs) r) wg2:=hr
      obtain ⟨cs,rfl,hcs⟩:=rd_agg hr
      obtain ⟨x1,x2,x3,rfl,r1,r2,r3⟩:=rd_cn hcs
      obtain ⟨ka2,kc2,rfl⟩:=rowOf_slice r1.out
      obtain ⟨kx2,ky2,rfl⟩:=rowOf_slice r2.out
      obtain ⟨kg2,kh2,rfl⟩:=rowOf_slice r3.out
      have C2 : Hid (Rd (fun k=>(AA k ∨ w102_.heap.size ≤ k) ∧ k ≠ b17) (fun w=>elCn w [.slice ka2 (comeCn x bs).calls.length kc2,I (comeCn x bs).at_,.bool (comeCn x bs).sent,I (comeCn x bs).gen,.slice kx2 (comeCn x bs).box.length ky2,.slice kg2 (comeCn x bs).got.length kh2] (comeCn x bs)) wg2):=hcs.widen fun k _ h=>⟨(by rcases h with h | h; exact .inl h; exact .inr (by have q:=EXK.out.size; omega)),(by rintro rfl; rcases h with h | h; exact N_b17.out h; have q:=(Array.getElem?_eq_some_iff.1 B_b17.out).1; omega)⟩
      clear hr hcs r1 r2 r3
      replace B_b16:=zbx B_b16 eg
      replace B_b17:=zbx B_b17 eg
      replace HBS:=zrx HBS eg
      replace Q1:=zrx Q1 eg
      replace Q2:=zrx Q2 eg
      replace Q3:=zrx Q3 eg
      replace C1:=zrx C1 eg
      replace EW:=Lib.hid (EW.out.trans eg)
      replace EXK:=Lib.hid (EXK.out.trans eg)
      clear HSS eg
      refine ⟨_,rfl,B_b16.out,?_⟩
      have HSS : Hid (wg2.heap[b16]? = some (.cells #[.slice ka0 x.calls.length kc0,I x.at_,.bool x.sent,I x.gen,.slice kx0 x.box.length ky0,.slice kg0 x.got.length kh0] 51 (0,0))):=B_b16.out
      refine held_norm (fun K hK=>?_); go_simp; refine hK _ ?_; clear hK K
      refine held_all 7 (by kernel_rfl) ?_
      refine wpOp_alloc rfl rfl 51 #[.slice none 0 0,I 0,.bool false,I 0,.slice none 0 0,.slice none 0 0] (by kernel_rfl) (fun b18 wa18 MA18=>⟨MA18.out.old B_b16.out,?_⟩)
      have HB_b18 : Hid (w102_.heap.size ≤ b18):=by unfold Hid; have q:=MA18.out.at_; have q3:=EXK.out.size; omega
      have D_b16_b18:=zld B_b16 MA18
      have D_b17_b18:=zld B_b17 MA18
      replace C1:=Lib.hid (C1.out.widen (B:=(fun k=>(AA k ∨ w102_.heap.size ≤ k) ∧ k ≠ b17 ∧ k ≠ b18)) (fun k hk h=>⟨h.1,h.2,(by have q:=MA18.out.at_; omega)⟩))
      replace C2:=Lib.hid (C2.out.widen (B:=(fun k=>(AA k ∨ w102_.heap.size ≤ k) ∧ k ≠ b17 ∧ k ≠ b18)) (fun k hk h=>⟨h.1,h.2,(by have q:=MA18.out.at_; omega)⟩))
      have N_b18 : Hid (¬ AA b18):=by unfold Hid; intro h; have q:=SZA.out b18 h; have q2:=HB_b18.out; omega
      replace HBS:=Lib.hid (HBS.out.ext MA18.out.ext)
      replace Q1:=Lib.hid (Q1.out.ext MA18.out.ext)
      replace Q2:=Lib.hid (Q2.out.ext MA18.out.ext)
      replace Q3:=Lib.hid (Q3.out.ext MA18.out.ext)
      replace C1:=Lib.hid (C1.out.ext MA18.out.ext)
      replace C2:=Lib.hid (C2.out.ext MA18.out.ext)
      replace B_b16:=zmo MA18 B_b16
      replace B_b17:=zmo MA18 B_b17
      have B_b18:=zmb MA18
      replace EXK:=zet EXK MA18
      replace EW:=zet EW MA18
      clear HSS
      have HSS : Hid (wa18.heap[b16]? = some (.cells #[.slice ka0 x.calls.length kc0,I x.at_,.bool x.sent,I x.gen,.slice kx0 x.box.length ky0,.slice kg0 x.got.length kh0] 51 (0,0))):=B_b16.out
      refine held_norm (fun K hK=>?_); go_simp; refine hK _ ?_; clear hK K
      have NE : Hid (b17 ≠ b18):=(Nat.ne_of_lt D_b17_b18.out)
      refine held_storeW 8 (by kernel_rfl) rfl rfl 51 (.tmp 17) (.tmp 47) rfl b17 rfl [.slice ka1 (comeCn x bs).calls.length kc1,I (comeCn x bs).at_,.bool (comeCn x bs).sent,I (comeCn x bs).gen,.slice kx1 (comeCn x bs).box.length ky1,.slice kg1 (comeCn x bs).got.length kh1] rfl B_b17 rfl (by kernel_rfl) rfl (fun ws8 MS8=>⟨MS8.out.old B_b16.out (Nat.ne_of_lt D_b16_b17.out),?_⟩)
      replace C1:=Lib.hid (MS8.out.rd C1.out (fun h=>h.2.1 rfl))
      replace C2:=Lib.hid (MS8.out.rd C2.out (fun h=>h.2.1 rfl))
      replace B_b16:=zwl MS8 B_b16 D_b16_b17
      replace B_b18:=Lib.hid (MS8.out.old B_b18.out (Ne.symm NE.out))
      replace B_b17:=zwb MS8
      replace EXK:=Lib.hid (MS8.out.ext EXK.out HB_b17.out)
      clear HSS
      have HSS : Hid (ws8.heap[b16]? = some (.cells #[.slice ka0 x.calls.length kc0,I x.at_,.bool x.sent,I x.gen,.slice kx0 x.box.length ky0,.slice kg0 x.got.length kh0] 51 (0,0))):=B_b16.out
      refine held_norm (fun K hK=>?_); go_simp; refine hK _ ?_; clear hK K
      refine held_storeW 9 (by kernel_rfl) rfl rfl 51 (.tmp 18) (.tmp 50) rfl b18 rfl [.slice ka2 (comeCn x bs).calls.length kc2,I (comeCn x bs).at_,.bool (comeCn x bs).sent,I (comeCn x bs).gen,.slice kx2 (comeCn x bs).box.length ky2,.slice kg2 (comeCn x bs).got.length kh2] rfl B_b18 rfl (by kernel_rfl) rfl (fun ws9 MS9=>⟨MS9.out.old B_b16.out (Nat.ne_of_lt D_b16_b18.out),?_⟩)
      replace C1:=Lib.hid (MS9.out.rd C1.out (fun h=>h.2.2 rfl))
      replace C2:=Lib.hid (MS9.out.rd C2.out (fun h=>h.2.2 rfl))
      replace B_b16:=zwl MS9 B_b16 D_b16_b18
      replace B_b17:=Lib.hid (MS9.out.old B_b17.out NE.out)
      replace B_b18:=zwb MS9
      replace EXK:=Lib.hid (MS9.out.ext EXK.out HB_b18.out)
      clear HSS
      have HSS : Hid (ws9.heap[b16]? = some (.cells #[.slice ka0 x.calls.length kc0,I x.at_,.bool x.sent,I x.gen,.slice kx0 x.box.length ky0,.slice kg0 x.got.length kh0] 51 (0,0))):=B_b16.out
      refine held_norm (fun K hK=>?_); go_simp; refine hK _ ?_; clear hK K
      refine wpAnyH_done (by kernel_rfl) ?_ _
      clear HSS
      go_wp2_with fail
      go_meet
      case rel=>exact ⟨b17,b18,_,_,_,_,_,_,_,_,_,_,_,_,rfl,rfl,HB_b17.out,HB_b18.out,NE.out,B_b17.out,B_b18.out,EXK.out,C1.out,C2.out⟩
     ·refine wpOp_alloc rfl rfl 51 #[.slice none 0 0,I 0,.bool false,I 0,.slice none 0 0,.slice none 0 0] (by kernel_rfl) (fun b18 wa18 MA18=>⟨MA18.out.old B_b16.out,?_⟩)
      have HB_b18 : Hid (w102_.heap.size ≤ b18):=by unfold Hid; have q:=MA18.out.at_; have q3:=EXK.out.size; omega
      have D_b16_b18:=zld B_b16 MA18
      have D_b17_b18:=zld B_b17 MA18
      replace C1:=Lib.hid (C1.out.widen (B:=(fun k=>(AA k ∨ w102_.heap.size ≤ k) ∧ k ≠ b17 ∧ k ≠ b18)) (fun k hk h=>⟨h.1,h.2,(by have q:=MA18.out.at_; omega)⟩))
      have N_b18 : Hid (¬ AA b18):=by unfold Hid; intro h; have q:=SZA.out b18 h; have q2:=HB_b18.out; omega
      replace HBS:=Lib.hid (HBS.out.ext MA18.out.ext)
      replace Q1:=Lib.hid (Q1.out.ext MA18.out.ext)
      replace Q2:=Lib.hid (Q2.out.ext MA18.out.ext)
      replace Q3:=Lib.hid (Q3.out.ext MA18.out.ext)
      replace C1:=Lib.hid (C1.out.ext MA18.out.ext)
      replace B_b16:=zmo MA18 B_b16
      replace B_b17:=zmo MA18 B_b17
      have B_b18:=zmb MA18
      replace EXK:=zet EXK MA18
      replace EW:=zet EW MA18
      clear HSS
      have HSS : Hid (wa18.heap[b16]? = some (.cells #[.slice ka0 x.calls.length kc0,I x.at_,.bool x.sent,I x.gen,.slice kx0 x.box.length ky0,.slice kg0 x.got.length kh0] 51 (0,0))):=B_b16.out
      refine held_norm (fun K hK=>?_); go_simp; refine hK _ ?_; clear hK K
      refine held_all 5 (by kernel_rfl) ?_
      refine wpOp_call rfl rfl 9 #[.agg #[.slice ka0 x.calls.length kc0,I x.at_,.bool x.sent,I x.gen,.slice kx0 x.box.length ky0,.slice kg0 x.got.length kh0],.slice ba bs.length bc] (by go_simp) ?_
      refine (refClientCome_keeps x.calls x.at_ x.sent x.gen x.box x.got _ _ _ _ bs wa18 AA Q1.out Q2.out Q3.out HBS.out (by have q:=GX.out.2; omega)).to fun r wg2 eg hr=>?_
      replace hr : Rd (fun k=>AA k ∨ wa18.heap.size ≤ k) (Agg elCn (comeCn x bs) r) wg2:=hr
      obtain ⟨cs,rfl,hcs⟩:=rd_agg hr
      obtain ⟨x1,x2,x3,rfl,r1,r2,r3⟩:=rd_cn hcs
      obtain ⟨ka2,kc2,rfl⟩:=rowOf_slice r1.out
      obtain ⟨kx2,ky2,rfl⟩:=rowOf_slice r2.out
      obtain ⟨kg2,kh2,rfl⟩:=rowOf_slice r3.out
      have C2 : Hid (Rd (fun k=>(AA k ∨ w102_.heap.size ≤ k) ∧ k ≠ b17 ∧ k ≠ b18) (fun w=>elCn w [.slice ka2 (comeCn x bs).calls.length kc2,I (comeCn x bs).at_,.bool (comeCn x bs).sent,I (comeCn x bs).gen,.slice kx2 (comeCn x bs).box.length ky2,.slice kg2 (comeCn x bs).got.length kh2] (comeCn x bs)) wg2):=hcs.widen fun k _ h=>⟨(by rcases h with h | h; exact .inl h; exact .inr (by have q:=EXK.out.size; omega)),(by rintro rfl; rcases h with h | h; exact N_b17.out h; have q:=(Array.getElem?_eq_some_iff.1 B_b17.out).1; omega),(by rintro rfl; rcases h with h | h; exact N_b18.out h; have q:=(Array.getElem?_eq_some_iff.1 B_b18.out).1; omega)⟩
      clear hr hcs r1 r2 r3
      replace B_b16:=zbx B_b16 eg
      replace B_b17:=zbx B_b17 eg
      replace B_b18:=zbx B_b18 eg
      replace HBS:=zrx HBS eg
      replace Q1:=zrx Q1 eg
      replace Q2:=zrx Q2 eg
      replace Q3:=zrx Q3 eg
      replace C1:=zrx C1 eg
      replace EW:=Lib.hid (EW.out.trans eg)
      replace EXK:=Lib.hid (EXK.out.trans eg)
      clear HSS eg
      refine ⟨_,rfl,B_b16.out,?_⟩
      have HSS : Hid (wg2.heap[b16]? = some (.cells #[.slice ka0 x.calls.length kc0,I x.at_,.bool x.sent,I x.gen,.slice kx0 x.box.length ky0,.slice kg0 x.got.length kh0] 51 (0,0))):=B_b16.out
      refine held_norm (fun K hK=>?_); go_simp; refine hK _ ?_; clear hK K
      have NE : Hid (b17 ≠ b18):=(Nat.ne_of_lt D_b17_b18.out)
      refine held_storeW 8 (by kernel_rfl) rfl rfl 51 (.tmp 17) (.tmp 47) rfl b17 rfl [.slice ka1 (comeCn x bs).calls.length kc1,I (comeCn x bs).at_,.bool (comeCn x bs).sent,I (comeCn x bs).gen,.slice kx1 (comeCn x bs).box.length ky1,.slice kg1 (comeCn x bs).got.length kh1] rfl B_b17 rfl (by kernel_rfl) rfl (fun ws8 MS8=>⟨MS8.out.old B_b16.out (Nat.ne_of_lt D_b16_b17.out),?_⟩)
      replace C1:=Lib.hid (MS8.out.rd C1.out (fun h=>h.2.1 rfl))
      replace C2:=Lib.hid (MS8.out.rd C2.out (fun h=>h.2.1 rfl))
      replace B_b16:=zwl MS8 B_b16 D_b16_b17
      replace B_b18:=Lib.hid (MS8.out.old B_b18.out (Ne.symm NE.out))
      replace B_b17:=zwb MS8
      replace EXK:=Lib.hid (MS8.out.ext EXK.out HB_b17.out)
      clear HSS
      have HSS : Hid (ws8.heap[b16]? = some (.cells #[.slice ka0 x.calls.length kc0,I x.at_,.bool x.sent,I x.gen,.slice kx0 x.box.length ky0,.slice kg0 x.got.length kh0] 51 (0,0))):=B_b16.out
      refine held_norm (fun K hK=>?_); go_simp; refine hK _ ?_; clear hK K
      refine held_storeW 9 (by kernel_rfl) rfl rfl 51 (.tmp 18) (.tmp 50) rfl b18 rfl [.slice ka2 (comeCn x bs).calls.length kc2,I (comeCn x bs).at_,.bool (comeCn x bs).sent,I (comeCn x bs).gen,.slice kx2 (comeCn x bs).box.length ky2,.slice kg2 (comeCn x bs).got.length kh2] rfl B_b18 rfl (by kernel_rfl) rfl (fun ws9 MS9=>⟨MS9.out.old B_b16.out (Nat.ne_of_lt D_b16_b18.out),?_⟩)
      replace C1:=Lib.hid (MS9.out.rd C1.out (fun h=>h.2.2 rfl))
      replace C2:=Lib.hid (MS9.out.rd C2.out (fun h=>h.2.2 rfl))
      replace B_b16:=zwl MS9 B_b16 D_b16_b18
      replace B_b17:=Lib.hid (MS9.out.old B_b17.out NE.out)
      replace B_b18:=zwb MS9
      replace EXK:=Lib.hid (MS9.out.ext EXK.out HB_b18.out)
      clear HSS
      have HSS : Hid (ws9.heap[b16]? = some (.cells #[.slice ka0 x.calls.length kc0,I x.at_,.bool x.sent,I x.gen,.slice kx0 x.box.length ky0,.slice kg0 x.got.length kh0] 51 (0,0))):=B_b16.out
      refine held_norm (fun K hK=>?_); go_simp; refine hK _ ?_; clear hK K
      refine wpAnyH_done (by kernel_rfl) ?_ _
      clear HSS
      go_wp2_with fail
      go_meet
      case rel=>exact ⟨b17,b18,_,_,_,_,_,_,_,_,_,_,_,_,rfl,rfl,HB_b17.out,HB_b18.out,NE.out,B_b17.out,B_b18.out,EXK.out,C1.out,C2.out⟩
    ·refine wpOp_alloc rfl rfl 51 #[.slice none 0 0,I 0,.bool false,I 0,.slice none 0 0,.slice none 0 0] (by kernel_rfl) (fun b18 wa18 MA18=>⟨MA18.out.old B_b16.out,?_⟩)
     have HB_b18 : Hid (w102_.heap.size ≤ b18):=by unfold Hid; have q:=MA18.out.at_; have q3:=EXK.out.size; omega
     have D_b16_b18:=zld B_b16 MA18
     have D_b17_b18:=zld B_b17 MA18
     have N_b18 : Hid (¬ AA b18):=by unfold Hid; intro h; have q:=SZA.out b18 h; have q2:=HB_b18.out; omega
     replace HBS:=Lib.hid (HBS.out.ext MA18.out.ext)
     replace Q1:=Lib.hid (Q1.out.ext MA18.out.ext)
     replace Q2:=Lib.hid (Q2.out.ext MA18.out.ext)
     replace Q3:=Lib.hid (Q3.out.ext MA18.out.ext)
     replace B_b16:=zmo MA18 B_b16
     replace B_b17:=zmo MA18 B_b17
     have B_b18:=zmb MA18
     replace EXK:=zet EXK MA18
     replace EW:=zet EW MA18
     clear HSS
     have HSS : Hid (wa18.heap[b16]? = some (.cells #[.slice ka0 x.calls.length kc0,I x.at_,.bool x.sent,I x.gen,.slice kx0 x.box.length ky0,.slice kg0 x.got.length kh0] 51 (0,0))):=B_b16.out
     refine held_norm (fun K hK=>?_); go_simp; refine hK _ ?_; clear hK K
     refine held_all 2 (by kernel_rfl) ?_
     refine wpOp_call rfl rfl 8 #[.agg #[.slice ka0 x.calls.length kc0,I x.at_,.bool x.sent,I x.gen,.slice kx0 x.box.length ky0,.slice kg0 x.got.length kh0],.slice ba bs.length bc] (by go_simp) ?_
     refine (HCO.out x _ _ _ _ bs wa18 AA Q1.out Q2.out Q3.out HBS.out GX.out.1 HR.out).to fun r wg1 eg hr=>?_
     replace hr : Rd (fun k=>AA k ∨ wa18.heap.size ≤ k) (Agg elCn (comeCn x bs) r) wg1:=hr
     obtain ⟨cs,rfl,hcs⟩:=rd_agg hr
     obtain ⟨x1,x2,x3,rfl,r1,r2,r3⟩:=rd_cn hcs
     obtain ⟨ka1,kc1,rfl⟩:=rowOf_slice r1.out
     obtain ⟨kx1,ky1,rfl⟩:=rowOf_slice r2.out
     obtain ⟨kg1,kh1,rfl⟩:=rowOf_slice r3.out
     have C1 : Hid (Rd (fun k=>(AA k ∨ w102_.heap.size ≤ k) ∧ k ≠ b17 ∧ k ≠ b18) (fun w=>elCn w [.slice ka1 (comeCn x bs).calls.length kc1,I (comeCn x bs).at_,.bool (comeCn x bs).sent,I (comeCn x bs).gen,.slice kx1 (comeCn x bs).box.length ky1,.slice kg1 (comeCn x bs).got.length kh1] (comeCn x bs)) wg1):=hcs.widen fun k _ h=>⟨(by rcases h with h | h; exact .inl h; exact .inr (by have q:=EXK.out.size; omega)),(by rintro rfl; rcases h with h | h; exact N_b17.out h; have q:=(Array.getElem?_eq_some_iff.1 B_b17.out).1; omega),(by rintro rfl; rcases h with h | h; exact N_b18.out h; have q:=(Array.getElem?_eq_some_iff.1 B_b18.out).1; omega)⟩
     clear hr hcs r1 r2 r3
     replace B_b16:=zbx B_b16 eg
     replace B_b17:=zbx B_b17 eg
     replace B_b18:=zbx B_b18 eg
     replace HBS:=zrx HBS eg
     replace Q1:=zrx Q1 eg
     replace Q2:=zrx Q2 eg
     replace Q3:=zrx Q3 eg
     replace EW:=Lib.hid (EW.out.trans eg)
     replace EXK:=Lib.hid (EXK.out.trans eg)
     clear HSS eg
     refine ⟨_,rfl,B_b16.out,?_⟩
     have HSS : Hid (wg1.heap[b16]? = some (.cells #[.slice ka0 x.calls.length kc0,I x.at_,.bool x.sent,I x.gen,.slice kx0 x.box.length ky0,.slice kg0 x.got.length kh0] 51 (0,0))):=B_b16.out
     refine held_norm (fun K hK=>?_); go_simp; refine hK _ ?_; clear hK K
     refine held_all 5 (by kernel_rfl) ?_
     refine wpOp_call rfl rfl 9 #[.agg #[.slice ka0 x.calls.length kc0,I x.at_,.bool x.sent,I x.gen,.slice kx0 x.box.length ky0,.slice kg0 x.got.length kh0],.slice ba bs.length bc] (by go_simp) ?_
     refine (refClientCome_keeps x.calls x.at_ x.sent x.gen x.box x.got _ _ _ _ bs wg1 AA Q1.out Q2.out Q3.out HBS.out (by have q:=GX.out.2; omega)).to fun r wg2 eg hr=>?_
     replace hr : Rd (fun k=>AA k ∨ wg1.heap.size ≤ k) (Agg elCn (comeCn x bs) r) wg2:=hr
     obtain ⟨cs,rfl,hcs⟩:=rd_agg hr
     obtain ⟨x1,x2,x3,rfl,r1,r2,r3⟩:=rd_cn hcs
     obtain ⟨ka2,kc2,rfl⟩:=rowOf_slice r1.out
     obtain ⟨kx2,ky2,rfl⟩:=rowOf_slice r2.out
     obtain ⟨kg2,kh2,rfl⟩:=rowOf_slice r3.out
     have C2 : Hid (Rd (fun k=>(AA k ∨ w102_.heap.size ≤ k) ∧ k ≠ b17 ∧ k ≠ b18) (fun w=>elCn w [.slice ka2 (comeCn x bs).calls.length kc2,I (comeCn x bs).at_,.bool (comeCn x bs).sent,I (comeCn x bs).gen,.slice kx2 (comeCn x bs).box.length ky2,.slice kg2 (comeCn x bs).got.length kh2] (comeCn x bs)) wg2):=hcs.widen fun k _ h=>⟨(by rcases h with h | h; exact .inl h; exact .inr (by have q:=EXK.out.size; omega)),(by rintro rfl; rcases h with h | h; exact N_b17.out h; have q:=(Array.getElem?_eq_some_iff.1 B_b17.out).1; omega),(by rintro rfl; rcases h with h | h; exact N_b18.out h; have q:=(Array.getElem?_eq_some_iff.1 B_b18.out).1; omega)⟩
     clear hr hcs r1 r2 r3
     replace B_b16:=zbx B_b16 eg
     replace B_b17:=zbx B_b17 eg
     replace B_b18:=zbx B_b18 eg
     replace HBS:=zrx HBS eg
     replace Q1:=zrx Q1 eg
     replace Q2:=zrx Q2 eg
     replace Q3:=zrx Q3 eg
     replace C1:=zrx C1 eg
     replace EW:=Lib.hid (EW.out.trans eg)
     replace EXK:=Lib.hid (EXK.out.trans eg)
     clear HSS eg
     refine ⟨_,rfl,B_b16.out,?_⟩
     have HSS : Hid (wg2.heap[b16]? = some (.cells #[.slice ka0 x.calls.length kc0,I x.at_,.bool x.sent,I x.gen,.slice kx0 x.box.length ky0,.slice kg0 x.got.length kh0] 51 (0,0))):=B_b16.out
     refine held_norm (fun K hK=>?_); go_simp; refine hK _ ?_; clear hK K
     have NE : Hid (b17 ≠ b18):=(Nat.ne_of_lt D_b17_b18.out)
     refine held_storeW 8 (by kernel_rfl) rfl rfl 51 (.tmp 17) (.tmp 47) rfl b17 rfl [.slice ka1 (comeCn x bs).calls.length kc1,I (comeCn x bs).at_,.bool (comeCn x bs).sent,I (comeCn x bs).gen,.slice kx1 (comeCn x bs).box.length ky1,.slice kg1 (comeCn x bs).got.length kh1] rfl B_b17 rfl (by kernel_rfl) rfl (fun ws8 MS8=>⟨MS8.out.old B_b16.out (Nat.ne_of_lt D_b16_b17.out),?_⟩)
     replace C1:=Lib.hid (MS8.out.rd C1.out (fun h=>h.2.1 rfl))
     replace C2:=Lib.hid (MS8.out.rd C2.out (fun h=>h.2.1 rfl))
     replace B_b16:=zwl MS8 B_b16 D_b16_b17
     replace B_b18:=Lib.hid (MS8.out.old B_b18.out (Ne.symm NE.out))
     replace B_b17:=zwb MS8
     replace EXK:=Lib.hid (MS8.out.ext EXK.out HB_b17.out)
     clear HSS
     have HSS : Hid (ws8.heap[b16]? = some (.cells #[.slice ka0 x.calls.length kc0,I x.at_,.bool x.sent,I x.gen,.slice kx0 x.box.length ky0,.slice kg0 x.got.length kh0] 51 (0,0))):=B_b16.out
     refine held_norm (fun K hK=>?_); go_simp; refine hK _ ?_; clear hK K
     refine held_storeW 9 (by kernel_rfl) rfl rfl 51 (.tmp 18) (.tmp 50) rfl b18 rfl [.slice ka2 (comeCn x bs).calls.length kc2,I (comeCn x bs).at_,.bool (comeCn x bs).sent,I (comeCn x bs).gen,.slice kx2 (comeCn x bs).box.length ky2,.slice kg2 (comeCn x bs).got.length kh2] rfl B_b18 rfl (by kernel_rfl) rfl (fun ws9 MS9=>⟨MS9.out.old B_b16.out (Nat.ne_of_lt D_b16_b18.out),?_⟩)
     replace C1:=Lib.hid (MS9.out.rd C1.out (fun h=>h.2.2 rfl))
     replace C2:=Lib.hid (MS9.out.rd C2.out (fun h=>h.2.2 rfl))
     replace B_b16:=zwl MS9 B_b16 D_b16_b18
     replace B_b17:=Lib.hid (MS9.out.old B_b17.out NE.out)
     replace B_b18:=zwb MS9
     replace EXK:=Lib.hid (MS9.out.ext EXK.out HB_b18.out)
     clear HSS
     have HSS : Hid (ws9.heap[b16]? = some (.cells #[.slice ka0 x.calls.length kc0,I x.at_,.bool x.sent,I x.gen,.slice kx0 x.box.length ky0,.slice kg0 x.got.length kh0] 51 (0,0))):=B_b16.out
     refine held_norm (fun K hK=>?_); go_simp; refine hK _ ?_; clear hK K
     refine wpAnyH_done (by kernel_rfl) ?_ _
     clear HSS
     go_wp2_with fail
     go_meet
     case rel=>exact ⟨b17,b18,_,_,_,_,_,_,_,_,_,_,_,_,rfl,rfl,HB_b17.out,HB_b18.out,NE.out,B_b17.out,B_b18.out,EXK.out,C1.out,C2.out⟩
   ·refine wpOp_alloc rfl rfl 51 #[.slice none 0 0,I 0,.bool false,I 0,.slice none 0 0,.slice none 0 0] (by kernel_rfl) (fun b18 wa18 MA18=>⟨MA18.out.old B_b16.out,?_⟩)
    have HB_b18 : Hid (w102_.heap.size ≤ b18):=by unfold Hid; have q:=MA18.out.at_; have q3:=EXK.out.size; omega
    have D_b16_b18:=zld B_b16 MA18
    have N_b18 : Hid (¬ AA b18):=by unfold Hid; intro h; have q:=SZA.out b18 h; have q2:=HB_b18.out; omega
    replace HBS:=Lib.hid (HBS.out.ext MA18.out.ext)
    replace Q1:=Lib.hid (Q1.out.ext MA18.out.ext)
    replace Q2:=Lib.hid (Q2.out.ext MA18.out.ext)
    replace Q3:=Lib.hid (Q3.out.ext MA18.out.ext)
    replace B_b16:=zmo MA18 B_b16
    have B_b18:=zmb MA18
    replace EXK:=zet EXK MA18
    replace EW:=zet EW MA18
    clear HSS
    have HSS : Hid (wa18.heap[b16]? = some (.cells #[.slice ka0 x.calls.length kc0,I x.at_,.bool x.sent,I x.gen,.slice kx0 x.box.length ky0,.slice kg0 x.got.length kh0] 51 (0,0))):=B_b16.out
    refine held_norm (fun K hK=>?_); go_simp; refine hK _ ?_; clear hK K
    refine held_two 2 6 (by kernel_rfl) ?_ ?_
    ·refine wpOp_call rfl rfl 8 #[.agg #[.slice ka0 x.calls.length kc0,I x.at_,.bool x.sent,I x.gen,.slice kx0 x.box.length ky0,.slice kg0 x.got.length kh0],.slice ba bs.length bc] (by go_simp) ?_
     refine (HCO.out x _ _ _ _ bs wa18 AA Q1.out Q2.out Q3.out HBS.out GX.out.1 HR.out).to fun r wg1 eg hr=>?_
     replace hr : Rd (fun k=>AA k ∨ wa18.heap.size ≤ k) (Agg elCn (comeCn x bs) r) wg1:=hr
     obtain ⟨cs,rfl,hcs⟩:=rd_agg hr
     obtain ⟨x1,x2,x3,rfl,r1,r2,r3⟩:=rd_cn hcs
     obtain ⟨ka1,kc1,rfl⟩:=rowOf_slice r1.out
     obtain ⟨kx1,ky1,rfl⟩:=rowOf_slice r2.out
     obtain ⟨kg1,kh1,rfl⟩:=rowOf_slice r3.out
     have C1 : Hid (Rd (fun k=>(AA k ∨ w102_.heap.size ≤ k) ∧ k ≠ b18) (fun w=>elCn w [.slice ka1 (comeCn x bs).calls.length kc1,I (comeCn x bs).at_,.bool (comeCn x bs).sent,I (comeCn x bs).gen,.slice kx1 (comeCn x bs).box.length ky1,.slice kg1 (comeCn x bs).got.length kh1] (comeCn x bs)) wg1):=hcs.widen fun k _ h=>⟨(by rcases h with h | h; exact .inl h; exact .inr (by have q:=EXK.out.size; omega)),(by rintro rfl; rcases h with h | h; exact N_b18.out h; have q:=(Array.getElem?_eq_some_iff.1 B_b18.out).1; omega)⟩
     clear hr hcs r1 r2 r3
     replace B_b16:=zbx B_b16 eg
     replace B_b18:=zbx B_b18 eg
     replace HBS:=zrx HBS eg
     replace Q1:=zrx Q1 eg
     replace Q2:=zrx Q2 eg
     replace Q3:=zrx Q3 eg
     replace EW:=Lib.hid (EW.out.trans eg)
     replace EXK:=Lib.hid (EXK.out.trans eg)
     clear HSS eg
     refine ⟨_,rfl,B_b16.out,?_⟩
     have HSS : Hid (wg1.heap[b16]? = some (.cells #[.slice ka0 x.calls.length kc0,I x.at_,.bool x.sent,I x.gen,.slice kx0 x.box.length ky0,.slice kg0 x.got.length kh0] 51 (0,0))):=B_b16.out
     refine held_norm (fun K hK=>?_); go_simp; refine hK _ ?_; clear hK K
     refine held_two 5 6 (by kernel_rfl) ?_ ?_
     ·refine wpOp_call rfl rfl 9 #[.agg #[.slice ka0 x.calls.length kc0,I x.at_,.bool x.sent,I x.gen,.slice kx0 x.box.length ky0,.slice kg0 x.got.length kh0],.slice ba bs.length bc] (by go_simp) ?_
      refine (refClientCome_keeps x.calls x.at_ x.sent x.gen x.box x.got _ _ _ _ bs wg1 AA Q1.out Q2.out Q3.out HBS.out (by have q:=GX.out.2; omega)).to fun r wg2 eg hr=>?_
      replace hr : Rd (fun k=>AA k ∨ wg1.heap.size ≤ k) (Agg elCn (comeCn x bs) r) wg2:=hr
      obtain ⟨cs,rfl,hcs⟩:=rd_agg hr
      obtain ⟨x1,x2,x3,rfl,r1,r2,r3⟩:=rd_cn hcs
      obtain ⟨ka2,kc2,rfl⟩:=rowOf_slice r1.out
      obtain ⟨kx2,ky2,rfl⟩:=rowOf_slice r2.out
      obtain ⟨kg2,kh2,rfl⟩:=rowOf_slice r3.out
      have C2 : Hid (Rd (fun k=>(AA k ∨ w102_.heap.size ≤ k) ∧ k ≠ b18) (fun w=>elCn w [.slice ka2 (comeCn x bs).calls.length kc2,I (comeCn x bs).at_,.bool (comeCn x bs).sent,I (comeCn x bs).gen,.slice kx2 (comeCn x bs).box.length ky2,.slice kg2 (comeCn x bs).got.length kh2] (comeCn x bs)) wg2):=hcs.widen fun k _ h=>⟨(by rcases h with h | h; exact .inl h; exact .inr (by have q:=EXK.out.size; omega)),(by rintro rfl; rcases h with h | h; exact N_b18.out h; have q:=(Array.getElem?_eq_some_iff.1 B_b18.out).1; omega)⟩
      clear hr hcs r1 r2 r3
      replace B_b16:=zbx B_b16 eg
      replace B_b18:=zbx B_b18 eg
      replace HBS:=zrx HBS eg
      replace Q1:=zrx Q1 eg
      replace Q2:=zrx Q2 eg
      replace Q3:=zrx Q3 eg
      replace C1:=zrx C1 eg
      replace EW:=Lib.hid (EW.out.trans eg)
      replace EXK:=Lib.hid (EXK.out.trans eg)
      clear HSS eg
      refine ⟨_,rfl,B_b16.out,?_⟩
      have HSS : Hid (wg2.heap[b16]? = some (.cells #[.slice ka0 x.calls.length kc0,I x.at_,.bool x.sent,I x.gen,.slice kx0 x.box.length ky0,.slice kg0 x.got.length kh0] 51 (0,0))):=B_b16.out
      refine held_norm (fun K hK=>?_); go_simp; refine hK _ ?_; clear hK K
      refine held_all 6 (by kernel_rfl) ?_
      refine wpOp_alloc rfl rfl 51 #[.slice none 0 0,I 0,.bool false,I 0,.slice none 0 0,.slice none 0 0] (by kernel_rfl) (fun b17 wa17 MA17=>⟨MA17.out.old B_b16.out,?_⟩)
      have HB_b17 : Hid (w102_.heap.size ≤ b17):=by unfold Hid; have q:=MA17.out.at_; have q3:=EXK.out.size; omega
      have D_b16_b17:=zld B_b16 MA17
      have D_b18_b17:=zld B_b18 MA17
      replace C1:=Lib.hid (C1.out.widen (B:=(fun k=>(AA k ∨ w102_.heap.size ≤ k) ∧ k ≠ b17 ∧ k ≠ b18)) (fun k hk h=>⟨h.1,(by have q:=MA17.out.at_; omega),h.2⟩))
      replace C2:=Lib.hid (C2.out.widen (B:=(fun k=>(AA k ∨ w102_.heap.size ≤ k) ∧ k ≠ b17 ∧ k ≠ b18)) (fun k hk h=>⟨h.1,(by have q:=MA17.out.at_; omega),h.2⟩))
      have N_b17 : Hid (¬ AA b17):=by unfold Hid; intro h; have q:=SZA.out b17 h; have q2:=HB_b17.out; omega
      replace HBS:=Lib.hid (HBS.out.ext MA17.out.ext)
      replace Q1:=Lib.hid (Q1.out.ext MA17.out.ext)
      replace Q2:=Lib.hid (Q2.out.ext MA17.out.ext)
      replace Q3:=Lib.hid (Q3.out.ext MA17.out.ext)
      replace C1:=Lib.hid (C1.out.ext MA17.out.ext)
      replace C2:=Lib.hid (C2.out.ext MA17.out.ext)
      replace B_b16:=zmo MA17 B_b16
      replace B_b18:=zmo MA17 B_b18
      have B_b17:=zmb MA17
      replace EXK:=zet EXK MA17
      replace EW:=zet EW MA17
      clear HSS
      have HSS : Hid (wa17.heap[b16]? = some (.cells #[.slice ka0 x.calls.length kc0,I x.at_,.bool x.sent,I x.gen,.slice kx0 x.box.length ky0,.slice kg0 x.got.length kh0] 51 (0,0))):=B_b16.out
      refine held_norm (fun K hK=>?_); go_simp; refine hK _ ?_; clear hK K
      have NE : Hid (b17 ≠ b18):=(Nat.ne_of_gt D_b18_b17.out)
      refine held_storeW 8 (by kernel_rfl) rfl rfl 51 (.tmp 17) (.tmp 47) rfl b17 rfl [.slice ka1 (comeCn x bs).calls.length kc1,I (comeCn x bs).at_,.bool (comeCn x bs).sent,I (comeCn x bs).gen,.slice kx1 (comeCn x bs).box.length ky1,.slice kg1 (comeCn x bs).got.length kh1] rfl B_b17 rfl (by kernel_rfl) rfl (fun ws8 MS8=>⟨MS8.out.old B_b16.out (Nat.ne_of_lt D_b16_b17.out),?_⟩)
      replace C1:=Lib.hid (MS8.out.rd C1.out (fun h=>h.2.1 rfl))
      replace C2:=Lib.hid (MS8.out.rd C2.out (fun h=>h.2.1 rfl))
      replace B_b16:=zwl MS8 B_b16 D_b16_b17
      replace B_b18:=Lib.hid (MS8.out.old B_b18.out (Ne.symm NE.out))
      replace B_b17:=zwb MS8
      replace EXK:=Lib.hid (MS8.out.ext EXK.out HB_b17.out)
      clear HSS
      have HSS : Hid (ws8.heap[b16]? = some (.cells #[.slice ka0 x.calls.length kc0,I x.at_,.bool x.sent,I x.gen,.slice kx0 x.box.length ky0,.slice kg0 x.got.length kh0] 51 (0,0))):=B_b16.out
      refine held_norm (fun K hK=>?_); go_simp; refine hK _ ?_; clear hK K
      refine held_storeW 9 (by kernel_rfl) rfl rfl 51 (.tmp 18) (.tmp 50) rfl b18 rfl [.slice ka2 (comeCn x bs).calls.length kc2,I (comeCn x bs).at_,.bool (comeCn x bs).sent,I (comeCn x bs).gen,.slice kx2 (comeCn x bs).box.length ky2,.slice kg2 (comeCn x bs).got.length kh2] rfl B_b18 rfl (by kernel_rfl) rfl (fun ws9 MS9=>⟨MS9.out.old B_b16.out (Nat.ne_of_lt D_b16_b18.out),?_⟩)
      replace C1:=Lib.hid (MS9.out.rd C1.out (fun h=>h.2.2 rfl))
      replace C2:=Lib.hid (MS9.out.rd C2.out (fun h=>h.2.2 rfl))
      replace B_b16:=zwl MS9 B_b16 D_b16_b18
      replace B_b17:=Lib.hid (MS9.out.old B_b17.out NE.out)
      replace B_b18:=zwb MS9
      replace EXK:=Lib.hid (MS9.out.ext EXK.out HB_b18.out)
      clear HSS
      have HSS : Hid (ws9.heap[b16]? = some (.cells #[.slice ka0 x.calls.length kc0,I x.at_,.bool x.sent,I x.gen,.slice kx0 x.box.length ky0,.slice kg0 x.got.length kh0] 51 (0,0))):=B_b16.out
      refine held_norm (fun K hK=>?_); go_simp; refine hK _ ?_; clear hK K
      refine wpAnyH_done (by kernel_rfl) ?_ _
      clear HSS
      go_wp2_with fail
      go_meet
      case rel=>exact ⟨b17,b18,_,_,_,_,_,_,_,_,_,_,_,_,rfl,rfl,HB_b17.out,HB_b18.out,NE.out,B_b17.out,B_b18.out,EXK.out,C1.out,C2.out⟩
     ·refine wpOp_alloc rfl rfl 51 #[.slice none 0 0,I 0,.bool false,I 0,.slice none 0 0,.slice none 0 0] (by kernel_rfl) (fun b17 wa17 MA17=>⟨MA17.out.old B_b16.out,?_⟩)
      have HB_b17 : Hid (w102_.heap.size ≤ b17):=by unfold Hid; have q:=MA17.out.at_; have q3:=EXK.out.size; omega
      have D_b16_b17:=zld B_b16 MA17
      have D_b18_b17:=zld B_b18 MA17
      replace C1:=Lib.hid (C1.out.widen (B:=(fun k=>(AA k ∨ w102_.heap.size ≤ k) ∧ k ≠ b17 ∧ k ≠ b18)) (fun k hk h=>⟨h.1,(by have q:=MA17.out.at_; omega),h.2⟩))
      have N_b17 : Hid (¬ AA b17):=by unfold Hid; intro h; have q:=SZA.out b17 h; have q2:=HB_b17.out; omega
      replace HBS:=Lib.hid (HBS.out.ext MA17.out.ext)
      replace Q1:=Lib.hid (Q1.out.ext MA17.out.ext)
      replace Q2:=Lib.hid (Q2.out.ext MA17.out.ext)
      replace Q3:=Lib.hid (Q3.out.ext MA17.out.ext)
      replace C1:=Lib.hid (C1.out.ext MA17.out.ext)
      replace B_b16:=zmo MA17 B_b16
      replace B_b18:=zmo MA17 B_b18
      have B_b17:=zmb MA17
      replace EXK:=zet EXK MA17
      replace EW:=zet EW MA17
      clear HSS
      have HSS : Hid (wa17.heap[b16]? = some (.cells #[.slice ka0 x.calls.length kc0,I x.at_,.bool x.sent,I x.gen,.slice kx0 x.box.length ky0,.slice kg0 x.got.length kh0] 51 (0,0))):=B_b16.out
      refine held_norm (fun K hK=>?_); go_simp; refine hK _ ?_; clear hK K
      refine held_all 5 (by kernel_rfl) ?_
      refine wpOp_call rfl rfl 9 #[.agg #[.slice ka0 x.calls.length kc0,I x.at_,.bool x.sent,I x.gen,.slice kx0 x.box.length ky0,.slice kg0 x.got.length kh0],.slice ba bs.length bc] (by go_simp) ?_
      refine (refClientCome_keeps x.calls x.at_ x.sent x.gen x.box x.got _ _ _ _ bs wa17 AA Q1.out Q2.out Q3.out HBS.out (by have q:=GX.out.2; omega)).to fun r wg2 eg hr=>?_
      replace hr : Rd (fun k=>AA k ∨ wa17.heap.size ≤ k) (Agg elCn (comeCn x bs) r) wg2:=hr
      obtain ⟨cs,rfl,hcs⟩:=rd_agg hr
      obtain ⟨x1,x2,x3,rfl,r1,r2,r3⟩:=rd_cn hcs
      obtain ⟨ka2,kc2,rfl⟩:=rowOf_slice r1.out
      obtain ⟨kx2,ky2,rfl⟩:=rowOf_slice r2.out
      obtain ⟨kg2,kh2,rfl⟩:=rowOf_slice r3.out
      have C2 : Hid (Rd (fun k=>(AA k ∨ w102_.heap.size ≤ k) ∧ k ≠ b17 ∧ k ≠ b18) (fun w=>elCn w [.slice ka2 (comeCn x bs).calls.length kc2,I (comeCn x bs).at_,.bool (comeCn x bs).sent,I (comeCn x bs).gen,.slice kx2 (comeCn x bs).box.length ky2,.slice kg2 (comeCn x bs).got.length kh2] (comeCn x bs)) wg2):=hcs.widen fun k _ h=>⟨(by rcases h with h | h; exact .inl h; exact .inr (by have q:=EXK.out.size; omega)),(by rintro rfl; rcases h with h | h; exact N_b17.out h; have q:=(Array.getElem?_eq_some_iff.1 B_b17.out).1; omega),(by rintro rfl; rcases h with h | h; exact N_b18.out h; have q:=(Array.getElem?_eq_some_iff.1 B_b18.out).1; omega)⟩
      clear hr hcs r1 r2 r3
      replace B_b16:=zbx B_b16 eg
      replace B_b18:=zbx B_b18 eg
      replace B_b17:=zbx B_b17 eg
      replace HBS:=zrx HBS eg
      replace Q1:=zrx Q1 eg
      replace Q2:=zrx Q2 eg
      replace Q3:=zrx Q3 eg
      replace C1:=zrx C1 eg
      replace EW:=Lib.hid (EW.out.trans eg)
      replace EXK:=Lib.hid (EXK.out.trans eg)
      clear HSS eg
      refine ⟨_,rfl,B_b16.out,?_⟩
      have HSS : Hid (wg2.heap[b16]? = some (.cells #[.slice ka0 x.calls.length kc0,I x.at_,.bool x.sent,I x.gen,.slice kx0 x.box.length ky0,.slice kg0 x.got.length kh0] 51 (0,0))):=B_b16.out
      refine held_norm (fun K hK=>?_); go_simp; refine hK _ ?_; clear hK K
      have NE : Hid (b17 ≠ b18):=(Nat.ne_of_gt D_b18_b17.out)
      refine held_storeW 8 (by kernel_rfl) rfl rfl 51 (.tmp 17) (.tmp 47) rfl b17 rfl [.slice ka1 (comeCn x bs).calls.length kc1,I (comeCn x bs).at_,.bool (comeCn x bs).sent,I (comeCn x bs).gen,.slice kx1 (comeCn x bs).box.length ky1,.slice kg1 (comeCn x bs).got.length kh1] rfl B_b17 rfl (by kernel_rfl) rfl (fun ws8 MS8=>⟨MS8.out.old B_b16.out (Nat.ne_of_lt D_b16_b17.out),?_⟩)
      replace C1:=Lib.hid (MS8.out.rd C1.out (fun h=>h.2.1 rfl))
      replace C2:=Lib.hid (MS8.out.rd C2.out (fun h=>h.2.1 rfl))
      replace B_b16:=zwl MS8 B_b16 D_b16_b17
      replace B_b18:=Lib.hid (MS8.out.old B_b18.out (Ne.symm NE.out))
      replace B_b17:=zwb MS8
      replace EXK:=Lib.hid (MS8.out.ext EXK.out HB_b17.out)
      clear HSS
      have HSS : Hid (ws8.heap[b16]? = some (.cells #[.slice ka0 x.calls.length kc0,I x.at_,.bool x.sent,I x.gen,.slice kx0 x.box.length ky0,.slice kg0 x.got.length kh0] 51 (0,0))):=B_b16.out
      refine held_norm (fun K hK=>?_); go_simp; refine hK _ ?_; clear hK K
      refine held_storeW 9 (by kernel_rfl) rfl rfl 51 (.tmp 18) (.tmp 50) rfl b18 rfl [.slice ka2 (comeCn x bs).calls.length kc2,I (comeCn x bs).at_,.bool (comeCn x bs).sent,I (comeCn x bs).gen,.slice kx2 (comeCn x bs).box.length ky2,.slice kg2 (comeCn x bs).got.length kh2] rfl B_b18 rfl (by kernel_rfl) rfl (fun ws9 MS9=>⟨MS9.out.old B_b16.out (Nat.ne_of_lt D_b16_b18.out),?_⟩)
      replace C1:=Lib.hid (MS9.out.rd C1.out (fun h=>h.2.2 rfl))
      replace C2:=Lib.hid (MS9.out.rd C2.out (fun h=>h.2.2 rfl))
      replace B_b16:=zwl MS9 B_b16 D_b16_b18
      replace B_b17:=Lib.hid (MS9.out.old B_b17.out NE.out)
      replace B_b18:=zwb MS9
      replace EXK:=Lib.hid (MS9.out.ext EXK.out HB_b18.out)
      clear HSS
      have HSS : Hid (ws9.heap[b16]? = some (.cells #[.slice ka0 x.calls.length kc0,I x.at_,.bool x.sent,I x.gen,.slice kx0 x.box.length ky0,.slice kg0 x.got.length kh0] 51 (0,0))):=B_b16.out
      refine held_norm (fun K hK=>?_); go_simp; refine hK _ ?_; clear hK K
      refine wpAnyH_done (by kernel_rfl) ?_ _
      clear HSS
      go_wp2_with fail
      go_meet
      case rel=>exact ⟨b17,b18,_,_,_,_,_,_,_,_,_,_,_,_,rfl,rfl,HB_b17.out,HB_b18.out,NE.out,B_b17.out,B_b18.out,EXK.out,C1.out,C2.out⟩
    ·refine wpOp_alloc rfl rfl 51 #[.slice none 0 0,I 0,.bool false,I 0,.slice none 0 0,.slice none 0 0] (by kernel_rfl) (fun b17 wa17 MA17=>⟨MA17.out.old B_b16.out,?_⟩)
     have HB_b17 : Hid (w102_.heap.size ≤ b17):=by unfold Hid; have q:=MA17.out.at_; have q3:=EXK.out.size; omega
     have D_b16_b17:=zld B_b16 MA17
     have D_b18_b17:=zld B_b18 MA17
     have N_b17 : Hid (¬ AA b17):=by unfold Hid; intro h; have q:=SZA.out b17 h; have q2:=HB_b17.out; omega
     replace HBS:=Lib.hid (HBS.out.ext MA17.out.ext)
     replace Q1:=Lib.hid (Q1.out.ext MA17.out.ext)
     replace Q2:=Lib.hid (Q2.out.ext MA17.out.ext)
     replace Q3:=Lib.hid (Q3.out.ext MA17.out.ext)
     replace B_b16:=zmo MA17 B_b16
     replace B_b18:=zmo MA17 B_b18
     have B_b17:=zmb MA17
     replace EXK:=zet EXK MA17
     replace EW:=zet EW MA17
     clear HSS
     have HSS : Hid (wa17.heap[b16]? = some (.cells #[.slice ka0 x.calls.length kc0,I x.at_,.bool x.sent,I x.gen,.slice kx0 x.box.length ky0,.slice kg0 x.got.length kh0] 51 (0,0))):=B_b16.out
     refine held_norm (fun K hK=>?_); go_simp; refine hK _ ?_; clear hK K
     refine held_all 2 (by kernel_rfl) ?_
     refine wpOp_call rfl rfl 8 #[.agg #[.slice ka0 x.calls.length kc0,I x.at_,.bool x.sent,I x.gen,.slice kx0 x.box.length ky0,.slice kg0 x.got.length kh0],.slice ba bs.length bc] (by go_simp) ?_
     refine (HCO.out x _ _ _ _ bs wa17 AA Q1.out Q2.out Q3.out HBS.out GX.out.1 HR.out).to fun r wg1 eg hr=>?_
     replace hr : Rd (fun k=>AA k ∨ wa17.heap.size ≤ k) (Agg elCn (comeCn x bs) r) wg1:=hr
     obtain ⟨cs,rfl,hcs⟩:=rd_agg hr
     obtain ⟨x1,x2,x3,rfl,r1,r2,r3⟩:=rd_cn hcs
     obtain ⟨ka1,kc1,rfl⟩:=rowOf_slice r1.out
     obtain ⟨kx1,ky1,rfl⟩:=rowOf_slice r2.out
     obtain ⟨kg1,kh1,rfl⟩:=rowOf_slice r3.out
     have C1 : Hid (Rd (fun k=>(AA k ∨ w102_.heap.size ≤ k) ∧ k ≠ b17 ∧ k ≠ b18) (fun w=>elCn w [.slice ka1 (comeCn x bs).calls.length kc1,I (comeCn x bs).at_,.bool (comeCn x bs).sent,I (comeCn x bs).gen,.slice kx1 (comeCn x bs).box.length ky1,.slice kg1 (comeCn x bs).got.length kh1] (comeCn x bs)) wg1):=hcs.widen fun k _ h=>⟨(by rcases h with h | h; exact .inl h; exact .inr (by have q:=EXK.out.size; omega)),(by rintro rfl; rcases h with h | h; exact N_b17.out h; have q:=(Array.getElem?_eq_some_iff.1 B_b17.out).1; omega),(by rintro rfl; rcases h with h | h; exact N_b18.out h; have q:=(Array.getElem?_eq_some_iff.1 B_b18.out).1; omega)⟩
     clear hr hcs r1 r2 r3
     replace B_b16:=zbx B_b16 eg
     replace B_b18:=zbx B_b18 eg
     replace B_b17:=zbx B_b17 eg
     replace HBS:=zrx HBS eg
     replace Q1:=zrx Q1 eg
     replace Q2:=zrx Q2 eg
     replace Q3:=zrx Q3 eg
     replace EW:=Lib.hid (EW.out.trans eg)
     replace EXK:=Lib.hid (EXK.out.trans eg)
     clear HSS eg
     refine ⟨_,rfl,B_b16.out,?_⟩
     have HSS : Hid (wg1.heap[b16]? = some (.cells #[.slice ka0 x.calls.length kc0,I x.at_,.bool x.sent,I x.gen,.slice kx0 x.box.length ky0,.slice kg0 x.got.length kh0] 51 (0,0))):=B_b16.out
     refine held_norm (fun K hK=>?_); go_simp; refine hK _ ?_; clear hK K
     refine held_all 5 (by kernel_rfl) ?_
     refine wpOp_call rfl rfl 9 #[.agg #[.slice ka0 x.calls.length kc0,I x.at_,.bool x.sent,I x.gen,.slice kx0 x.box.length ky0,.slice kg0 x.got.length kh0],.slice ba bs.length bc] (by go_simp) ?_
     refine (refClientCome_keeps x.calls x.at_ x.sent x.gen x.box x.got _ _ _ _ bs wg1 AA Q1.out Q2.out Q3.out HBS.out (by have q:=GX.out.2; omega)).to fun r wg2 eg hr=>?_
     replace hr : Rd (fun k=>AA k ∨ wg1.heap.size ≤ k) (Agg elCn (comeCn x bs) r) wg2:=hr
     obtain ⟨cs,rfl,hcs⟩:=rd_agg hr
     obtain ⟨x1,x2,x3,rfl,r1,r2,r3⟩:=rd_cn hcs
     obtain ⟨ka2,kc2,rfl⟩:=rowOf_slice r1.out
     obtain ⟨kx2,ky2,rfl⟩:=rowOf_slice r2.out
     obtain ⟨kg2,kh2,rfl⟩:=rowOf_slice r3.out
     have C2 : Hid (Rd (fun k=>(AA k ∨ w102_.heap.size ≤ k) ∧ k ≠ b17 ∧ k ≠ b18) (fun w=>elCn w [.slice ka2 (comeCn x bs).calls.length kc2,I (comeCn x bs).at_,.bool (comeCn x bs).sent,I (comeCn x bs).gen,.slice kx2 (comeCn x bs).box.length ky2,.slice kg2 (comeCn x bs).got.length kh2] (comeCn x bs)) wg2):=hcs.widen fun k _ h=>⟨(by rcases h with h | h; exact .inl h; exact .inr (by have q:=EXK.out.size; omega)),(by rintro rfl; rcases h with h | h; exact N_b17.out h; have q:=(Array.getElem?_eq_some_iff.1 B_b17.out).1; omega),(by rintro rfl; rcases h with h | h; exact N_b18.out h; have q:=(Array.getElem?_eq_some_iff.1 B_b18.out).1; omega)⟩
     clear hr hcs r1 r2 r3
     replace B_b16:=zbx B_b16 eg
     replace B_b18:=zbx B_b18 eg
     replace B_b17:=zbx B_b17 eg
     replace HBS:=zrx HBS eg
     replace Q1:=zrx Q1 eg
     replace Q2:=zrx Q2 eg
     replace Q3:=zrx Q3 eg
     replace C1:=zrx C1 eg
     replace EW:=Lib.hid (EW.out.trans eg)
     replace EXK:=Lib.hid (EXK.out.trans eg)
     clear HSS eg
     refine ⟨_,rfl,B_b16.out,?_⟩
     have HSS : Hid (wg2.heap[b16]? = some (.cells #[.slice ka0 x.calls.length kc0,I x.at_,.bool x.sent,I x.gen,.slice kx0 x.box.length ky0,.slice kg0 x.got.length kh0] 51 (0,0))):=B_b16.out
     refine held_norm (fun K hK=>?_); go_simp; refine hK _ ?_; clear hK K
     have NE : Hid (b17 ≠ b18):=(Nat.ne_of_gt D_b18_b17.out)
     refine held_storeW 8 (by kernel_rfl) rfl rfl 51 (.tmp 17) (.tmp 47) rfl b17 rfl [.slice ka1 (comeCn x bs).calls.length kc1,I (comeCn x bs).at_,.bool (comeCn x bs).sent,I (comeCn x bs).gen,.slice kx1 (comeCn x bs).box.length ky1,.slice kg1 (comeCn x bs).got.length kh1] rfl B_b17 rfl (by kernel_rfl) rfl (fun ws8 MS8=>⟨MS8.out.old B_b16.out (Nat.ne_of_lt D_b16_b17.out),?_⟩)
     replace C1:=Lib.hid (MS8.out.rd C1.out (fun h=>h.2.1 rfl))
     replace C2:=Lib.hid (MS8.out.rd C2.out (fun h=>h.2.1 rfl))
     replace B_b16:=zwl MS8 B_b16 D_b16_b17
     replace B_b18:=Lib.hid (MS8.out.old B_b18.out (Ne.symm NE.out))
     replace B_b17:=zwb MS8
     replace EXK:=Lib.hid (MS8.out.ext EXK.out HB_b17.out)
     clear HSS
     have HSS : Hid (ws8.heap[b16]? = some (.cells #[.slice ka0 x.calls.length kc0,I x.at_,.bool x.sent,I x.gen,.slice kx0 x.box.length ky0,.slice kg0 x.got.length kh0] 51 (0,0))):=B_b16.out
     refine held_norm (fun K hK=>?_); go_simp; refine hK _ ?_; clear hK K
     refine held_storeW 9 (by kernel_rfl) rfl rfl 51 (.tmp 18) (.tmp 50) rfl b18 rfl [.slice ka2 (comeCn x bs).calls.length kc2,I (comeCn x bs).at_,.bool (comeCn x bs).sent,I (comeCn x bs).gen,.slice kx2 (comeCn x bs).box.length ky2,.slice kg2 (comeCn x bs).got.length kh2] rfl B_b18 rfl (by kernel_rfl) rfl (fun ws9 MS9=>⟨MS9.out.old B_b16.out (Nat.ne_of_lt D_b16_b18.out),?_⟩)
     replace C1:=Lib.hid (MS9.out.rd C1.out (fun h=>h.2.2 rfl))
     replace C2:=Lib.hid (MS9.out.rd C2.out (fun h=>h.2.2 rfl))
     replace B_b16:=zwl MS9 B_b16 D_b16_b18
     replace B_b17:=Lib.hid (MS9.out.old B_b17.out NE.out)
     replace B_b18:=zwb MS9
     replace EXK:=Lib.hid (MS9.out.ext EXK.out HB_b18.out)
     clear HSS
     have HSS : Hid (ws9.heap[b16]? = some (.cells #[.slice ka0 x.calls.length kc0,I x.at_,.bool x.sent,I x.gen,.slice kx0 x.box.length ky0,.slice kg0 x.got.length kh0] 51 (0,0))):=B_b16.out
     refine held_norm (fun K hK=>?_); go_simp; refine hK _ ?_; clear hK K
     refine wpAnyH_done (by kernel_rfl) ?_ _
     clear HSS
     go_wp2_with fail
     go_meet
     case rel=>exact ⟨b17,b18,_,_,_,_,_,_,_,_,_,_,_,_,rfl,rfl,HB_b17.out,HB_b18.out,NE.out,B_b17.out,B_b18.out,EXK.out,C1.out,C2.out⟩
  case rest =>
   rename World=>wc
   obtain ⟨b17,b18,ka1,kc1,kx1,ky1,kg1,kh1,ka2,kc2,kx2,ky2,kg2,kh2,rfl,rfl,hb17,hb18,hne,hB17,hB18,hex,hR1,hR2⟩:=hcut
   obtain ⟨U,HU⟩ : ∃ X : Nat → Prop,Hid (∀ k,X k ↔ k < wc.heap.size):=⟨_,fun _=>Iff.rfl⟩
   have R1:=Lib.hid (hR1.widen (B:=U) fun k hk _=>(HU.out k).2 hk)
   have R2:=Lib.hid (hR2.widen (B:=U) fun k hk _=>(HU.out k).2 hk)
   have B_b17:=Lib.hid hB17
   have B_b18:=Lib.hid hB18
   have hyc : GoodC (comeCn x bs):=good_come GX.out.1 GX.out.2 HR.out
   have GY:=Lib.hid hyc
   clear hR1 hR2 hB17 hB18 hne hb17 hb18 hyc B_b13
   replace B_b16:=zbx B_b16 hex
   replace HBS:=zrx HBS hex
   replace Q1:=zrx Q1 hex
   replace Q2:=zrx Q2 hex
   replace Q3:=zrx Q3 hex
   replace EW:=Lib.hid (EW.out.trans hex)
   clear hex
   replace Q1:=Lib.hid (Q1.out.widen (B:=U) fun k hk _=>(HU.out k).2 hk)
   replace Q2:=Lib.hid (Q2.out.widen (B:=U) fun k hk _=>(HU.out k).2 hk)
   replace Q3:=Lib.hid (Q3.out.widen (B:=U) fun k hk _=>(HU.out k).2 hk)
   replace HBS:=Lib.hid (HBS.out.widen (B:=U) fun k hk _=>(HU.out k).2 hk)
   go_wp2_with ((with_reducible refine zst (L:=[44,41,31,51]) ?_ ?_); exact rfl)
   unfold Hid
   refine wpList_loadW rfl 51 (.tmp 17) rfl b17 rfl B_b17 Try.underlying51 (by kernel_rfl) (fun v51 H_v51=>?_)
   go_wp2_with ((with_reducible refine zst (L:=[44,41,31,51]) ?_ ?_); exact rfl)
   unfold Hid
   refine wpList_loadW rfl 51 (.tmp 18) rfl b18 rfl B_b18 Try.underlying51 (by kernel_rfl) (fun v52 H_v52=>?_)
   go_wp2_with fail
   rw [H_v51.out,H_v52.out]
   clear H_v51 H_v52
   refine Calls.exts (sameClient_eq (comeCn x bs) _ _ _ _ _ _ wc R1.out.out R2.out.out) (fun wd1 ed1=>?_)
   replace B_b16:=zbx B_b16 ed1
   replace B_b17:=zbx B_b17 ed1
   replace B_b18:=zbx B_b18 ed1
   replace Q1:=zrx Q1 ed1
   replace Q2:=zrx Q2 ed1
   replace Q3:=zrx Q3 ed1
   replace HBS:=zrx HBS ed1
   replace R1:=zrx R1 ed1
   replace R2:=zrx R2 ed1
   replace EW:=Lib.hid (EW.out.trans ed1)
   have SZC : Hid (wc.heap.size ≤ wd1.heap.size):=ed1.size
   clear ed1
   by_cases hm0 : (0 : Int) ≤ me
   case neg =>
    have hk19 : ¬ ((0 : Int) ≤ me):=hm0
    go_wp2_with ((with_reducible refine zst (L:=[44,41,31,51]) ?_ ?_); exact rfl)
    unfold Hid
    clear hk19
    refine wpList_loadW rfl 51 (.tmp 16) rfl b16 rfl B_b16 Try.underlying51 (by kernel_rfl) (fun v63 H_v63=>?_)
    go_wp2_with ((with_reducible refine zst (L:=[44,41,31,51]) ?_ ?_); exact rfl)
    unfold Hid
    refine wpList_loadW rfl 51 (.tmp 18) rfl b18 rfl B_b18 Try.underlying51 (by kernel_rfl) (fun v64 H_v64=>?_)
    obtain rfl:=H_v63.out
    obtain rfl:=H_v64.out
    clear H_v63 H_v64
    go_wp2_with ((with_reducible refine zst (L:=[44,41,31,51]) ?_ ?_); exact rfl)
    unfold Hid
    refine wpList_litB rfl 51 2 #[.slice ka0 x.calls.length kc0,I x.at_,.bool x.sent,I x.gen,.slice kx0 x.box.length ky0,.slice kg0 x.got.length kh0,.slice ka2 (comeCn x bs).calls.length kc2,I (comeCn x bs).at_,.bool (comeCn x bs).sent,I (comeCn x bs).gen,.slice kx2 (comeCn x bs).box.length ky2,.slice kg2 (comeCn x bs).got.length kh2] (by kernel_rfl) (fun b65 w103_ M103=>?_)
    have D_b16_b65:=zld B_b16 M103
    have D_b17_b65:=zld B_b17 M103
    have D_b18_b65:=zld B_b18 M103
    replace B_b16:=zmo M103 B_b16
    replace B_b17:=zmo M103 B_b17
    replace B_b18:=zmo M103 B_b18
    have B_b65:=zmb M103
    replace Q1:=zme M103 Q1
    replace Q2:=zme M103 Q2
    replace Q3:=zme M103 Q3
    replace HBS:=zme M103 HBS
    replace R1:=zme M103 R1
    replace R2:=zme M103 R2
    replace EW:=zet EW M103
    go_wp2_with fail
    replace SZC : Hid (wc.heap.size ≤ w103_.heap.size):=by unfold Hid; have q:=SZC.out; have q2:=M103.out.size; have q3:=M103.out.at_; omega
    have EQ0:=EW
    go_loopw [67] (fun i wr=>∃ j : Nat,j ≤ 2 ∧ i = I j ∧ Ext w103_ wr) (fun i _=>2 - (intOf i).toNat)
    case atStart=>exact ⟨0,Nat.zero_le _,rfl,Ext.refl _⟩
    case round =>
     obtain ⟨j,hj,rfl,hex2⟩:=hrel
     replace EW:=Lib.hid (Ext.refl w103_)
     have HX2:=Lib.hid hex2
     replace B_b16:=zbx B_b16 hex2
     replace B_b17:=zbx B_b17 hex2
     replace B_b18:=zbx B_b18 hex2
     replace B_b65:=zbx B_b65 hex2
     replace Q1:=zrx Q1 hex2
     replace Q2:=zrx Q2 hex2
     replace Q3:=zrx Q3 hex2
     replace HBS:=zrx HBS hex2
     replace R1:=zrx R1 hex2
     replace R2:=zrx R2 hex2
     replace EW:=Lib.hid (EW.out.trans hex2)
     clear hex2
     by_cases hlt2 : j < 2
     case neg =>
      have hkb : k < 1000:=by have q:=HLT.out; omega
      go_wp2
      go_roundw
      case rel=>exact ⟨k + 1,by omega,by go_num,EQ0.out.trans HX2.out⟩
      case measure=>have:=HLT.out; simp [intOf]; omega
     obtain ⟨d,x1,x2,x3,hrg,d1,d2,d3,gd⟩ : ∃ (d : Cn) (x1 x2 x3 : Value),wr.rangeAt b65 (j * 6) [x1,I d.at_,.bool d.sent,I d.gen,x2,x3] ∧ Rd U (fun w=>RowOf 4 elCl w x1 d.calls) wr ∧ Rd U (fun w=>RowOf 1 elBs w x2 d.box) wr ∧ Rd U (fun w=>RowOf 2 elRp w x3 d.got) wr ∧ GoodC d:=by
      have hjj : j = 0 ∨ j = 1:=by omega
      rcases hjj with rfl | rfl
      ·exact ⟨x,_,_,_,range_of B_b65.out [.slice ka0 x.calls.length kc0,I x.at_,.bool x.sent,I x.gen,.slice kx0 x.box.length ky0,.slice kg0 x.got.length kh0] rfl,Q1.out,Q2.out,Q3.out,GX.out.1⟩
      ·have q:=R2.out.imp fun _ h=>cn_iff.1 h
       exact ⟨(comeCn x bs),_,_,_,range_of B_b65.out [.slice ka2 (comeCn x bs).calls.length kc2,I (comeCn x bs).at_,.bool (comeCn x bs).sent,I (comeCn x bs).gen,.slice kx2 (comeCn x bs).box.length ky2,.slice kg2 (comeCn x bs).got.length kh2] rfl,q.left,q.right.left,q.right.right,GY.out⟩
     obtain ⟨ka3,kc3,rfl⟩:=rowOf_slice d1.out
     obtain ⟨kx3,ky3,rfl⟩:=rowOf_slice d2.out
     obtain ⟨kg3,kh3,rfl⟩:=rowOf_slice d3.out
     have HRG:=Lib.hid hrg
     have E1:=Lib.hid d1
     have E2:=Lib.hid d2
     have E3:=Lib.hid d3
     have GDD:=Lib.hid gd
     have hli2 : (j : Int) < 2:=by omega
     have hl02 : (0 : Int) ≤ (j : Int):=by omega
     have HJ:=Lib.hid hlt2
     clear hrg d1 d2 d3 gd hlt2 hj Q1 Q2 Q3 R1 R2 HBS
     go_wp2_with ((with_reducible refine zst (L:=[44,41,31,51]) ?_ ?_); exact rfl)
     unfold Hid
     clear hli2 hl02
     refine wpList_loadR rfl 51 (.tmp 69) rfl b65 (j * 6) rfl [.slice ka3 d.calls.length kc3,I d.at_,.bool d.sent,I d.gen,.slice kx3 d.box.length ky3,.slice kg3 d.got.length kh3] HRG.out Try.underlying51 (by kernel_rfl) (fun v70 H_v70=>?_)
     go_wp2_with ((with_reducible refine zst (L:=[44,41,31,51]) ?_ ?_); exact rfl)
     unfold Hid
     have SU : Hid (∀ k,U k → k < wr.heap.size):=fun k h=>by have q:=(HU.out k).1 h; have q2:=SZC.out; have q3:=HX2.out.size; omega
     refine wpList_allocB rfl 51 #[.slice none 0 0,I 0,.bool false,I 0,.slice none 0 0,.slice none 0 0] (by kernel_rfl) (fun b21 w201_ M201=>?_)
     have B_b21:=zmb M201
     replace E1:=zme M201 E1
     replace E2:=zme M201 E2
     replace E3:=zme M201 E3
     replace EW:=zet EW M201
     have N_b21 : Hid (¬ U b21):=fun q=>by have q1:=SU.out _ q; have q2:=M201.out.at_; omega
     have O_b21 : Hid (w103_.heap.size ≤ b21):=by unfold Hid; have q:=M201.out.at_; have q3:=HX2.out.size; omega
     go_wp2_with ((with_reducible refine zst (L:=[44,41,31,51]) ?_ ?_); exact rfl)
     unfold Hid
     refine wpList_storeW rfl 51 (.tmp 21) (.tmp 70) rfl b21 rfl _ (zcv H_v70) B_b21 rfl (by kernel_rfl) rfl (fun w202_ M202=>?_)
     replace B_b21:=zwb M202
     replace E1:=zwr M202 E1 N_b21
     replace E2:=zwr M202 E2 N_b21
     replace E3:=zwr M202 E3 N_b21
     replace EW:=zwe M202 EW O_b21
     go_wp2_with ((with_reducible refine zst (L:=[44,41,31,51]) ?_ ?_); exact rfl)
     unfold Hid
     refine wpList_loadW rfl 51 (.tmp 21) rfl b21 rfl B_b21 Try.underlying51 (by kernel_rfl) (fun v72 H_v72=>?_)
     go_wp2_with fail
     rw [H_v72.out]
     clear H_v72 SU
     obtain ⟨gx,gb,ge,hgo⟩ : ∃ x y z,goCn d (k : Int) gen up = (x,y,z):=⟨_,_,_,rfl⟩
     have HG:=Lib.hid hgo
     clear hgo
     obtain ⟨G4,HG4⟩ : ∃ X : Nat → Prop,Hid (∀ k,X k ↔ (U k ∨ w202_.heap.size ≤ k)):=⟨_,fun _=>Iff.rfl⟩
     replace E1:=Lib.hid (E1.out.widen (B:=G4) fun k _ h=>(HG4.out k).2 (.inl h))
     replace E2:=Lib.hid (E2.out.widen (B:=G4) fun k _ h=>(HG4.out k).2 (.inl h))
     replace E3:=Lib.hid (E3.out.widen (B:=G4) fun k _ h=>(HG4.out k).2 (.inl h))
     replace N_b21 : Hid (¬ G4 b21):=zgrC HG4 N_b21 B_b21
     refine (HGO.out d _ _ _ (k : Int) gen up w202_ G4 E1.out E2.out E3.out GDD.out (by omega) (by have q:=HLT.out; omega)).to fun r wg4 eg hr=>?_
     rw [HG.out] at hr
     obtain ⟨cs,bv,rfl,hcs,hbv⟩:=rd_tup3 hr
     obtain ⟨x1,x2,x3,rfl,r1,r2,r3⟩:=rd_cn hcs
     obtain ⟨ka4,kc4,rfl⟩:=rowOf_slice r1.out
     obtain ⟨kx4,ky4,rfl⟩:=rowOf_slice r2.out
     obtain ⟨kg4,kh4,rfl⟩:=rowOf_slice r3.out
     obtain ⟨pa4,pc4,rfl⟩:=row_slice hbv.out
     have hin : ∀ k,k < wg4.heap.size → (G4 k ∨ w202_.heap.size ≤ k) → G4 k:=fun k _ h=>(HG4.out k).2 (by rcases h with h | h; exact (HG4.out k).1 h; exact .inr h)
     have T4:=Lib.hid ((hcs.and hbv).widen hin)
     clear hr hcs hbv r1 r2 r3 hin
     replace B_b21:=zbx B_b21 eg
     replace E1:=zrx E1 eg
     replace E2:=zrx E2 eg
     replace E3:=zrx E3 eg
     replace EW:=Lib.hid (EW.out.trans eg)
     clear eg
     go_wp2_with ((with_reducible refine zst (L:=[44,41,31,51]) ?_ ?_); exact rfl)
     unfold Hid
     refine wpList_allocB rfl 51 #[.slice none 0 0,I 0,.bool false,I 0,.slice none 0 0,.slice none 0 0] (by kernel_rfl) (fun b22 w203_ M203=>?_)
     have D_b21_b22:=zld B_b21 M203
     obtain ⟨G41,HG41⟩ : ∃ X : Nat → Prop,Hid (∀ k,X k ↔ (G4 k ∧ k ≠ b22)):=⟨_,fun _=>Iff.rfl⟩
     replace E1:=zmd HG41 M203 E1
     replace E2:=zmd HG41 M203 E2
     replace E3:=zmd HG41 M203 E3
     replace T4:=zmd HG41 M203 T4
     replace N_b21:=znw HG41 N_b21
     have N_b22 : Hid (¬ G41 b22):=fun h=>((HG41.out _).1 h).2 rfl
     have I_G41 : Hid (∀ k,G41 k → G4 k):=fun k h=>((HG41.out k).1 h).1
     have O_b22 : Hid (w103_.heap.size ≤ b22):=by unfold Hid; have q2:=M203.out.at_; have q3:=EW.out.size; omega
     replace B_b21:=zmo M203 B_b21
     have B_b22:=zmb M203
     replace E1:=zme M203 E1
     replace E2:=zme M203 E2
     replace E3:=zme M203 E3
     replace T4:=zme M203 T4
     replace EW:=zet EW M203
     go_wp2_with ((with_reducible refine zst (L:=[44,41,31,51]) ?_ ?_); exact rfl)
     unfold Hid
     refine wpList_storeW rfl 51 (.tmp 22) (.tmp 77) rfl b22 rfl [.slice ka4 gx.calls.length kc4,I gx.at_,.bool gx.sent,I gx.gen,.slice kx4 gx.box.length ky4,.slice kg4 gx.got.length kh4] (rfl) B_b22 rfl (by kernel_rfl) rfl (fun w204_ M204=>?_)
     replace B_b21:=zwl M204 B_b21 D_b21_b22
     replace B_b22:=zwb M204
     replace E1:=zwr M204 E1 N_b22
     replace E2:=zwr M204 E2 N_b22
     replace E3:=zwr M204 E3 N_b22
     replace T4:=zwr M204 T4 N_b22
     replace EW:=zwe M204 EW O_b22
     go_wp2_with ((with_reducible refine zst (L:=[44,41,31,51]) ?_ ?_); exact rfl)
     unfold Hid
     refine wpList_loadW rfl 51 (.tmp 21) rfl b21 rfl B_b21 Try.underlying51 (by kernel_rfl) (fun v81 H_v81=>?_)
     go_wp2_with fail
     rw [H_v81.out]
     clear H_v81
     obtain ⟨G5,HG5⟩ : ∃ X : Nat → Prop,Hid (∀ k,X k ↔ (G41 k ∨ w204_.heap.size ≤ k)):=⟨_,fun _=>Iff.rfl⟩
     replace E1:=Lib.hid (E1.out.widen (B:=G5) fun k _ h=>(HG5.out k).2 (.inl h))
     replace E2:=Lib.hid (E2.out.widen (B:=G5) fun k _ h=>(HG5.out k).2 (.inl h))
     replace E3:=Lib.hid (E3.out.widen (B:=G5) fun k _ h=>(HG5.out k).2 (.inl h))
     replace T4:=Lib.hid (T4.out.widen (B:=G5) fun k _ h=>(HG5.out k).2 (.inl h))
     replace N_b21 : Hid (¬ G5 b21):=zgrC HG5 N_b21 B_b21
     replace N_b22 : Hid (¬ G5 b22):=zgrC HG5 N_b22 B_b22
     refine (refClientGo_keeps d _ _ _ (k : Int) gen up w204_ G5 E1.out E2.out E3.out GDD.out.at0 (by have q:=GDD.out.at1; omega) (by have q:=GDD.out.got; omega)).to fun r wg5 eg hr=>?_
     rw [HG.out] at hr
     obtain ⟨cs,bv,rfl,hcs,hbv⟩:=rd_tup3 hr
     obtain ⟨x1,x2,x3,rfl,r1,r2,r3⟩:=rd_cn hcs
     obtain ⟨ka5,kc5,rfl⟩:=rowOf_slice r1.out
     obtain ⟨kx5,ky5,rfl⟩:=rowOf_slice r2.out
     obtain ⟨kg5,kh5,rfl⟩:=rowOf_slice r3.out
     obtain ⟨pa5,pc5,rfl⟩:=row_slice hbv.out
     have hin : ∀ k,k < wg5.heap.size → (G5 k ∨ w204_.heap.size ≤ k) → G5 k:=fun k _ h=>(HG5.out k).2 (by rcases h with h | h; exact (HG5.out k).1 h; exact .inr h)
     have T5:=Lib.hid ((hcs.and hbv).widen hin)
     clear hr hcs hbv r1 r2 r3 hin
     replace B_b21:=zbx B_b21 eg
     replace B_b22:=zbx B_b22 eg
     replace E1:=zrx E1 eg
     replace E2:=zrx E2 eg
     replace E3:=zrx E3 eg
     replace T4:=zrx T4 eg
     replace EW:=Lib.hid (EW.out.trans eg)
     clear eg
     go_wp2_with ((with_reducible refine zst (L:=[44,41,31,51]) ?_ ?_); exact rfl)
     unfold Hid
     refine wpList_allocB rfl 51 #[.slice none 0 0,I 0,.bool false,I 0,.slice none 0 0,.slice none 0 0] (by kernel_rfl) (fun b25 w205_ M205=>?_)
     have D_b21_b25:=zld B_b21 M205
     have D_b22_b25:=zld B_b22 M205
     obtain ⟨G51,HG51⟩ : ∃ X : Nat → Prop,Hid (∀ k,X k ↔ (G5 k ∧ k ≠ b25)):=⟨_,fun _=>Iff.rfl⟩
     replace E1:=zmd HG51 M205 E1
     replace E2:=zmd HG51 M205 E2
     replace E3:=zmd HG51 M205 E3
     replace T4:=zmd HG51 M205 T4
     replace T5:=zmd HG51 M205 T5
     replace N_b21:=znw HG51 N_b21
     replace N_b22:=znw HG51 N_b22
     have N_b25 : Hid (¬ G51 b25):=fun h=>((HG51.out _).1 h).2 rfl
     have I_G51 : Hid (∀ k,G51 k → G5 k):=fun k h=>((HG51.out k).1 h).1
     have O_b25 : Hid (w103_.heap.size ≤ b25):=by unfold Hid; have q2:=M205.out.at_; have q3:=EW.out.size; omega
     replace B_b21:=zmo M205 B_b21
     replace B_b22:=zmo M205 B_b22
     have B_b25:=zmb M205
     replace E1:=zme M205 E1
     replace E2:=zme M205 E2
     replace E3:=zme M205 E3
     replace T4:=zme M205 T4
     replace T5:=zme M205 T5
     replace EW:=zet EW M205
     go_wp2_with ((with_reducible refine zst (L:=[44,41,31,51]) ?_ ?_); exact rfl)
     unfold Hid
     refine wpList_storeW rfl 51 (.tmp 25) (.tmp 86) rfl b25 rfl [.slice ka5 gx.calls.length kc5,I gx.at_,.bool gx.sent,I gx.gen,.slice kx5 gx.box.length ky5,.slice kg5 gx.got.length kh5] (rfl) B_b25 rfl (by kernel_rfl) rfl (fun w206_ M206=>?_)
     replace B_b21:=zwl M206 B_b21 D_b21_b25
     replace B_b22:=zwl M206 B_b22 D_b22_b25
     replace B_b25:=zwb M206
     replace E1:=zwr M206 E1 N_b25
     replace E2:=zwr M206 E2 N_b25
     replace E3:=zwr M206 E3 N_b25
     replace T4:=zwr M206 T4 N_b25
     replace T5:=zwr M206 T5 N_b25
     replace EW:=zwe M206 EW O_b25
     have hcv1:=run_string_of (P:=Try.prog) T4.out.out.2 Try.underlying24 Try.underlying5 Try.underlying9
     have hcv2:=run_string_of (P:=Try.prog) T5.out.out.2 Try.underlying24 Try.underlying5 Try.underlying9
     go_wp2_with ((with_reducible refine zst (L:=[44,41,31,51]) ?_ ?_); exact rfl)
     unfold Hid
     clear hcv1 hcv2
     refine wpList_loadGC rfl 51 (.tmp 22) rfl b22 0 rfl B_b22 [.slice ka4 gx.calls.length kc4,I gx.at_,.bool gx.sent,I gx.gen,.slice kx4 gx.box.length ky4,.slice kg4 gx.got.length kh4] rfl Try.underlying51 (by kernel_rfl) (fun v100 H_v100=>?_)
     go_wp2_with ((with_reducible refine zst (L:=[44,41,31,51]) ?_ ?_); exact rfl)
     unfold Hid
     refine wpList_loadGC rfl 51 (.tmp 25) rfl b25 0 rfl B_b25 [.slice ka5 gx.calls.length kc5,I gx.at_,.bool gx.sent,I gx.gen,.slice kx5 gx.box.length ky5,.slice kg5 gx.got.length kh5] rfl Try.underlying51 (by kernel_rfl) (fun v101 H_v101=>?_)
     go_wp2_with fail
     rw [H_v100.out,H_v101.out]
     clear H_v100 H_v101
     refine Calls.exts (sameClient_eq gx _ _ _ _ _ _ w206_ T4.out.out.1 T5.out.out.1) (fun wd2 ed2=>?_)
     replace B_b21:=zbx B_b21 ed2
     replace B_b22:=zbx B_b22 ed2
     replace B_b25:=zbx B_b25 ed2
     replace E1:=zrx E1 ed2
     replace E2:=zrx E2 ed2
     replace E3:=zrx E3 ed2
     replace T4:=zrx T4 ed2
     replace T5:=zrx T5 ed2
     replace EW:=Lib.hid (EW.out.trans ed2)
     clear ed2
     have HX3 : Hid (Ext w103_ wd2):=EW.out
     have hjb : j < 1000:=by have q:=HJ.out; omega
     go_wp2
     go_roundw
     case rel=>exact ⟨j + 1,by have q:=HJ.out; omega,by go_num,HX3.out⟩
     case measure=>have:=HJ.out; simp [intOf]; omega
   by_cases hm3 : me < 3
   case neg =>
    have hk19:=hm3
    go_wp2_with ((with_reducible refine zst (L:=[44,41,31,51]) ?_ ?_); exact rfl)
    unfold Hid
    clear hk19
    refine wpList_loadW rfl 51 (.tmp 16) rfl b16 rfl B_b16 Try.underlying51 (by kernel_rfl) (fun v63 H_v63=>?_)
    go_wp2_with ((with_reducible refine zst (L:=[44,41,31,51]) ?_ ?_); exact rfl)
    unfold Hid
    refine wpList_loadW rfl 51 (.tmp 18) rfl b18 rfl B_b18 Try.underlying51 (by kernel_rfl) (fun v64 H_v64=>?_)
    obtain rfl:=H_v63.out
    obtain rfl:=H_v64.out
    clear H_v63 H_v64
    go_wp2_with ((with_reducible refine zst (L:=[44,41,31,51]) ?_ ?_); exact rfl)
    unfold Hid
    refine wpList_litB rfl 51 2 #[.slice ka0 x.calls.length kc0,I x.at_,.bool x.sent,I x.gen,.slice kx0 x.box.length ky0,.slice kg0 x.got.length kh0,.slice ka2 (comeCn x bs).calls.length kc2,I (comeCn x bs).at_,.bool (comeCn x bs).sent,I (comeCn x bs).gen,.slice kx2 (comeCn x bs).box.length ky2,.slice kg2 (comeCn x bs).got.length kh2] (by kernel_rfl) (fun b65 w103_ M103=>?_)
    have D_b16_b65:=zld B_b16 M103
    have D_b17_b65:=zld B_b17 M103
    have D_b18_b65:=zld B_b18 M103
    replace B_b16:=zmo M103 B_b16
    replace B_b17:=zmo M103 B_b17
    replace B_b18:=zmo M103 B_b18
    have B_b65:=zmb M103
    replace Q1:=zme M103 Q1
    replace Q2:=zme M103 Q2
    replace Q3:=zme M103 Q3
    replace HBS:=zme M103 HBS
    replace R1:=zme M103 R1
    replace R2:=zme M103 R2
    replace EW:=zet EW M103
    go_wp2_with fail
    replace SZC : Hid (wc.heap.size ≤ w103_.heap.size):=by unfold Hid; have q:=SZC.out; have q2:=M103.out.size; have q3:=M103.out.at_; omega
    have EQ0:=EW
    go_loopw [67] (fun i wr=>∃ j : Nat,j ≤ 2 ∧ i = I j ∧ Ext w103_ wr) (fun i _=>2 - (intOf i).toNat)
    case atStart=>exact ⟨0,Nat.zero_le _,rfl,Ext.refl _⟩
    case round =>
     obtain ⟨j,hj,rfl,hex2⟩:=hrel
     replace EW:=Lib.hid (Ext.refl w103_)
     have HX2:=Lib.hid hex2
     replace B_b16:=zbx B_b16 hex2
     replace B_b17:=zbx B_b17 hex2
     replace B_b18:=zbx B_b18 hex2
     replace B_b65:=zbx B_b65 hex2
     replace Q1:=zrx Q1 hex2
     replace Q2:=zrx Q2 hex2
     replace Q3:=zrx Q3 hex2
     replace HBS:=zrx HBS hex2
     replace R1:=zrx R1 hex2
     replace R2:=zrx R2 hex2
     replace EW:=Lib.hid (EW.out.trans hex2)
     clear hex2
     by_cases hlt2 : j < 2
     case neg =>
      have hkb : k < 1000:=by have q:=HLT.out; omega
      go_wp2
      go_roundw
      case rel=>exact ⟨k + 1,by omega,by go_num,EQ0.out.trans HX2.out⟩
      case measure=>have:=HLT.out; simp [intOf]; omega
     obtain ⟨d,x1,x2,x3,hrg,d1,d2,d3,gd⟩ : ∃ (d : Cn) (x1 x2 x3 : Value),wr.rangeAt b65 (j * 6) [x1,I d.at_,.bool d.sent,I d.gen,x2,x3] ∧ Rd U (fun w=>RowOf 4 elCl w x1 d.calls) wr ∧ Rd U (fun w=>RowOf 1 elBs w x2 d.box) wr ∧ Rd U (fun w=>RowOf 2 elRp w x3 d.got) wr ∧ GoodC d:=by
      have hjj : j = 0 ∨ j = 1:=by omega
      rcases hjj with rfl | rfl
      ·exact ⟨x,_,_,_,range_of B_b65.out [.slice ka0 x.calls.length kc0,I x.at_,.bool x.sent,I x.gen,.slice kx0 x.box.length ky0,.slice kg0 x.got.length kh0] rfl,Q1.out,Q2.out,Q3.out,GX.out.1⟩
      ·have q:=R2.out.imp fun _ h=>cn_iff.1 h
       exact ⟨(comeCn x bs),_,_,_,range_of B_b65.out [.slice ka2 (comeCn x bs).calls.length kc2,I (comeCn x bs).at_,.bool (comeCn x bs).sent,I (comeCn x bs).gen,.slice kx2 (comeCn x bs).box.length ky2,.slice kg2 (comeCn x bs).got.length kh2] rfl,q.left,q.right.left,q.right.right,GY.out⟩
     obtain ⟨ka3,kc3,rfl⟩:=rowOf_slice d1.out
     obtain ⟨kx3,ky3,rfl⟩:=rowOf_slice d2.out
     obtain ⟨kg3,kh3,rfl⟩:=rowOf_slice d3.out
     have HRG:=Lib.hid hrg
     have E1:=Lib.hid d1
     have E2:=Lib.hid d2
     have E3:=Lib.hid d3
     have GDD:=Lib.hid gd
     have hli2 : (j : Int) < 2:=by omega
     have hl02 : (0 : Int) ≤ (j : Int):=by omega
     have HJ:=Lib.hid hlt2
     clear hrg d1 d2 d3 gd hlt2 hj Q1 Q2 Q3 R1 R2 HBS
     go_wp2_with ((with_reducible refine zst (L:=[44,41,31,51]) ?_ ?_); exact rfl)
     unfold Hid
     clear hli2 hl02
     refine wpList_loadR rfl 51 (.tmp 69) rfl b65 (j * 6) rfl [.slice ka3 d.calls.length kc3,I d.at_,.bool d.sent,I d.gen,.slice kx3 d.box.length ky3,.slice kg3 d.got.length kh3] HRG.out Try.underlying51 (by kernel_rfl) (fun v70 H_v70=>?_)
     go_wp2_with ((with_reducible refine zst (L:=[44,41,31,51]) ?_ ?_); exact rfl)
     unfold Hid
     have SU : Hid (∀ k,U k → k < wr.heap.size):=fun k h=>by have q:=(HU.out k).1 h; have q2:=SZC.out; have q3:=HX2.out.size; omega
     refine wpList_allocB rfl 51 #[.slice none 0 0,I 0,.bool false,I 0,.slice none 0 0,.slice none 0 0] (by kernel_rfl) (fun b21 w201_ M201=>?_)
     have B_b21:=zmb M201
     replace E1:=zme M201 E1
     replace E2:=zme M201 E2
     replace E3:=zme M201 E3
     replace EW:=zet EW M201
     have N_b21 : Hid (¬ U b21):=fun q=>by have q1:=SU.out _ q; have q2:=M201.out.at_; omega
     have O_b21 : Hid (w103_.heap.size ≤ b21):=by unfold Hid; have q:=M201.out.at_; have q3:=HX2.out.size; omega
     go_wp2_with ((with_reducible refine zst (L:=[44,41,31,51]) ?_ ?_); exact rfl)
     unfold Hid
     refine wpList_storeW rfl 51 (.tmp 21) (.tmp 70) rfl b21 rfl _ (zcv H_v70) B_b21 rfl (by kernel_rfl) rfl (fun w202_ M202=>?_)
     replace B_b21:=zwb M202
     replace E1:=zwr M202 E1 N_b21
     replace E2:=zwr M202 E2 N_b21
     replace E3:=zwr M202 E3 N_b21
     replace EW:=zwe M202 EW O_b21
     go_wp2_with ((with_reducible refine zst (L:=[44,41,31,51]) ?_ ?_); exact rfl)
     unfold Hid
     refine wpList_loadW rfl 51 (.tmp 21) rfl b21 rfl B_b21 Try.underlying51 (by kernel_rfl) (fun v72 H_v72=>?_)
     go_wp2_with fail
     rw [H_v72.out]
     clear H_v72 SU
     obtain ⟨gx,gb,ge,hgo⟩ : ∃ x y z,goCn d (k : Int) gen up = (x,y,z):=⟨_,_,_,rfl⟩
     have HG:=Lib.hid hgo
     clear hgo
     obtain ⟨G4,HG4⟩ : ∃ X : Nat → Prop,Hid (∀ k,X k ↔ (U k ∨ w202_.heap.size ≤ k)):=⟨_,fun _=>Iff.rfl⟩
     replace E1:=Lib.hid (E1.out.widen (B:=G4) fun k _ h=>(HG4.out k).2 (.inl h))
     replace E2:=Lib.hid (E2.out.widen (B:=G4) fun k _ h=>(HG4.out k).2 (.inl h))
     replace E3:=Lib.hid (E3.out.widen (B:=G4) fun k _ h=>(HG4.out k).2 (.inl h))
     replace N_b21 : Hid (¬ G4 b21):=zgrC HG4 N_b21 B_b21
     refine (HGO.out d _ _ _ (k : Int) gen up w202_ G4 E1.out E2.out E3.out GDD.out (by omega) (by have q:=HLT.out; omega)).to fun r wg4 eg hr=>?_
     rw [HG.out] at hr
     obtain ⟨cs,bv,rfl,hcs,hbv⟩:=rd_tup3 hr
     obtain ⟨x1,x2,x3,rfl,r1,r2,r3⟩:=rd_cn hcs
     obtain ⟨ka4,kc4,rfl⟩:=rowOf_slice r1.out
     obtain ⟨kx4,ky4,rfl⟩:=rowOf_slice r2.out
     obtain ⟨kg4,kh4,rfl⟩:=rowOf_slice r3.out
     obtain ⟨pa4,pc4,rfl⟩:=row_slice hbv.out
     have hin : ∀ k,k < wg4.heap.size → (G4 k ∨ w202_.heap.size ≤ k) → G4 k:=fun k _ h=>(HG4.out k).2 (by rcases h with h | h; exact (HG4.out k).1 h; exact .inr h)
     have T4:=Lib.hid ((hcs.and hbv).widen hin)
     clear hr hcs hbv r1 r2 r3 hin
     replace B_b21:=zbx B_b21 eg
     replace E1:=zrx E1 eg
     replace E2:=zrx E2 eg
     replace E3:=zrx E3 eg
     replace EW:=Lib.hid (EW.out.trans eg)
     clear eg
     go_wp2_with ((with_reducible refine zst (L:=[44,41,31,51]) ?_ ?_); exact rfl)
     unfold Hid
     refine wpList_allocB rfl 51 #[.slice none 0 0,I 0,.bool false,I 0,.slice none 0 0,.slice none 0 0] (by kernel_rfl) (fun b22 w203_ M203=>?_)
     have D_b21_b22:=zld B_b21 M203
     obtain ⟨G41,HG41⟩ : ∃ X : Nat → Prop,Hid (∀ k,X k ↔ (G4 k ∧ k ≠ b22)):=⟨_,fun _=>Iff.rfl⟩
     replace E1:=zmd HG41 M203 E1
     replace E2:=zmd HG41 M203 E2
     replace E3:=zmd HG41 M203 E3
     replace T4:=zmd HG41 M203 T4
     replace N_b21:=znw HG41 N_b21
     have N_b22 : Hid (¬ G41 b22):=fun h=>((HG41.out _).1 h).2 rfl
     have I_G41 : Hid (∀ k,G41 k → G4 k):=fun k h=>((HG41.out k).1 h).1
     have O_b22 : Hid (w103_.heap.size ≤ b22):=by unfold Hid; have q2:=M203.out.at_; have q3:=EW.out.size; omega
     replace B_b21:=zmo M203 B_b21
     have B_b22:=zmb M203
     replace E1:=zme M203 E1
     replace E2:=zme M203 E2
     replace E3:=zme M203 E3
     replace T4:=zme M203 T4
     replace EW:=zet EW M203
     go_wp2_with ((with_reducible refine zst (L:=[44,41,31,51]) ?_ ?_); exact rfl)
     unfold Hid
     refine wpList_storeW rfl 51 (.tmp 22) (.tmp 77) rfl b22 rfl [.slice ka4 gx.calls.length kc4,I gx.at_,.bool gx.sent,I gx.gen,.slice kx4 gx.box.length ky4,.slice kg4 gx.got.length kh4] (rfl) B_b22 rfl (by kernel_rfl) rfl (fun w204_ M204=>?_)
     replace B_b21:=zwl M204 B_b21 D_b21_b22
     replace B_b22:=zwb M204
     replace E1:=zwr M204 E1 N_b22
     replace E2:=zwr M204 E2 N_b22
     replace E3:=zwr M204 E3 N_b22
     replace T4:=zwr M204 T4 N_b22
     replace EW:=zwe M204 EW O_b22
     go_wp2_with ((with_reducible refine zst (L:=[44,41,31,51]) ?_ ?_); exact rfl)
     unfold Hid
     refine wpList_loadW rfl 51 (.tmp 21) rfl b21 rfl B_b21 Try.underlying51 (by kernel_rfl) (fun v81 H_v81=>?_)
     go_wp2_with fail
     rw [H_v81.out]
     clear H_v81
     obtain ⟨G5,HG5⟩ : ∃ X : Nat → Prop,Hid (∀ k,X k ↔ (G41 k ∨ w204_.heap.size ≤ k)):=⟨_,fun _=>Iff.rfl⟩
     replace E1:=Lib.hid (E1.out.widen (B:=G5) fun k _ h=>(HG5.out k).2 (.inl h))
     replace E2:=Lib.hid (E2.out.widen (B:=G5) fun k _ h=>(HG5.out k).2 (.inl h))
     replace E3:=Lib.hid (E3.out.widen (B:=G5) fun k _ h=>(HG5.out k).2 (.inl h))
     replace T4:=Lib.hid (T4.out.widen (B:=G5) fun k _ h=>(HG5.out k).2 (.inl h))
     replace N_b21 : Hid (¬ G5 b21):=zgrC HG5 N_b21 B_b21
     replace N_b22 : Hid (¬ G5 b22):=zgrC HG5 N_b22 B_b22
     refine (refClientGo_keeps d _ _ _ (k : Int) gen up w204_ G5 E1.out E2.out E3.out GDD.out.at0 (by have q:=GDD.out.at1; omega) (by have q:=GDD.out.got; omega)).to fun r wg5 eg hr=>?_
     rw [HG.out] at hr
     obtain ⟨cs,bv,rfl,hcs,hbv⟩:=rd_tup3 hr
     obtain ⟨x1,x2,x3,rfl,r1,r2,r3⟩:=rd_cn hcs
     obtain ⟨ka5,kc5,rfl⟩:=rowOf_slice r1.out
     obtain ⟨kx5,ky5,rfl⟩:=rowOf_slice r2.out
     obtain ⟨kg5,kh5,rfl⟩:=rowOf_slice r3.out
     obtain ⟨pa5,pc5,rfl⟩:=row_slice hbv.out
     have hin : ∀ k,k < wg5.heap.size → (G5 k ∨ w204_.heap.size ≤ k) → G5 k:=fun k _ h=>(HG5.out k).2 (by rcases h with h | h; exact (HG5.out k).1 h; exact .inr h)
     have T5:=Lib.hid ((hcs.and hbv).widen hin)
     clear hr hcs hbv r1 r2 r3 hin
     replace B_b21:=zbx B_b21 eg
     replace B_b22:=zbx B_b22 eg
     replace E1:=zrx E1 eg
     replace E2:=zrx E2 eg
     replace E3:=zrx E3 eg
     replace T4:=zrx T4 eg
     replace EW:=Lib.hid (EW.out.trans eg)
     clear eg
     go_wp2_with ((with_reducible refine zst (L:=[44,41,31,51]) ?_ ?_); exact rfl)
     unfold Hid
     refine wpList_allocB rfl 51 #[.slice none 0 0,I 0,.bool false,I 0,.slice none 0 0,.slice none 0 0] (by kernel_rfl) (fun b25 w205_ M205=>?_)
     have D_b21_b25:=zld B_b21 M205
     have D_b22_b25:=zld B_b22 M205
     obtain ⟨G51,HG51⟩ : ∃ X : Nat → Prop,Hid (∀ k,X k ↔ (G5 k ∧ k ≠ b25)):=⟨_,fun _=>Iff.rfl⟩
     replace E1:=zmd HG51 M205 E1
     replace E2:=zmd HG51 M205 E2
     replace E3:=zmd HG51 M205 E3
     replace T4:=zmd HG51 M205 T4
     replace T5:=zmd HG51 M205 T5
     replace N_b21:=znw HG51 N_b21
     replace N_b22:=znw HG51 N_b22
     have N_b25 : Hid (¬ G51 b25):=fun h=>((HG51.out _).1 h).2 rfl
     have I_G51 : Hid (∀ k,G51 k → G5 k):=fun k h=>((HG51.out k).1 h).1
     have O_b25 : Hid (w103_.heap.size ≤ b25):=by unfold Hid; have q2:=M205.out.at_; have q3:=EW.out.size; omega
     replace B_b21:=zmo M205 B_b21
     replace B_b22:=zmo M205 B_b22
     have B_b25:=zmb M205
     replace E1:=zme M205 E1
     replace E2:=zme M205 E2
     replace E3:=zme M205 E3
     replace T4:=zme M205 T4
     replace T5:=zme M205 T5
     replace EW:=zet EW M205
     go_wp2_with ((with_reducible refine zst (L:=[44,41,31,51]) ?_ ?_); exact rfl)
     unfold Hid
     refine wpList_storeW rfl 51 (.tmp 25) (.tmp 86) rfl b25 rfl [.slice ka5 gx.calls.length kc5,I gx.at_,.bool gx.sent,I gx.gen,.slice kx5 gx.box.length ky5,.slice kg5 gx.got.length kh5] (rfl) B_b25 rfl (by kernel_rfl) rfl (fun w206_ M206=>?_)
     replace B_b21:=zwl M206 B_b21 D_b21_b25
     replace B_b22:=zwl M206 B_b22 D_b22_b25
     replace B_b25:=zwb M206
     replace E1:=zwr M206 E1 N_b25
     replace E2:=zwr M206 E2 N_b25
     replace E3:=zwr M206 E3 N_b25
     replace T4:=zwr M206 T4 N_b25
     replace T5:=zwr M206 T5 N_b25
     replace EW:=zwe M206 EW O_b25
     have hcv1:=run_string_of (P:=Try.prog) T4.out.out.2 Try.underlying24 Try.underlying5 Try.underlying9
     have hcv2:=run_string_of (P:=Try.prog) T5.out.out.2 Try.underlying24 Try.underlying5 Try.underlying9
     go_wp2_with ((with_reducible refine zst (L:=[44,41,31,51]) ?_ ?_); exact rfl)
     unfold Hid
     clear hcv1 hcv2
     refine wpList_loadGC rfl 51 (.tmp 22) rfl b22 0 rfl B_b22 [.slice ka4 gx.calls.length kc4,I gx.at_,.bool gx.sent,I gx.gen,.slice kx4 gx.box.length ky4,.slice kg4 gx.got.length kh4] rfl Try.underlying51 (by kernel_rfl) (fun v100 H_v100=>?_)
     go_wp2_with ((with_reducible refine zst (L:=[44,41,31,51]) ?_ ?_); exact rfl)
     unfold Hid
     refine wpList_loadGC rfl 51 (.tmp 25) rfl b25 0 rfl B_b25 [.slice ka5 gx.calls.length kc5,I gx.at_,.bool gx.sent,I gx.gen,.slice kx5 gx.box.length ky5,.slice kg5 gx.got.length kh5] rfl Try.underlying51 (by kernel_rfl) (fun v101 H_v101=>?_)
     go_wp2_with fail
     rw [H_v100.out,H_v101.out]
     clear H_v100 H_v101
     refine Calls.exts (sameClient_eq gx _ _ _ _ _ _ w206_ T4.out.out.1 T5.out.out.1) (fun wd2 ed2=>?_)
     replace B_b21:=zbx B_b21 ed2
     replace B_b22:=zbx B_b22 ed2
     replace B_b25:=zbx B_b25 ed2
     replace E1:=zrx E1 ed2
     replace E2:=zrx E2 ed2
     replace E3:=zrx E3 ed2
     replace T4:=zrx T4 ed2
     replace T5:=zrx T5 ed2
     replace EW:=Lib.hid (EW.out.trans ed2)
     clear ed2
     have HX3 : Hid (Ext w103_ wd2):=EW.out
     have hjb : j < 1000:=by have q:=HJ.out; omega
     go_wp2
     go_roundw
     case rel=>exact ⟨j + 1,by have q:=HJ.out; omega,by go_num,HX3.out⟩
     case measure=>have:=HJ.out; simp [intOf]; omega
   have hk19:=hm3
   go_wp2_with ((with_reducible refine zst (L:=[44,41,31,51]) ?_ ?_); exact rfl)
   unfold Hid
   clear hk19
   refine wpList_loadW rfl 51 (.tmp 16) rfl b16 rfl B_b16 Try.underlying51 (by kernel_rfl) (fun v63 H_v63=>?_)
   go_wp2_with ((with_reducible refine zst (L:=[44,41,31,51]) ?_ ?_); exact rfl)
   unfold Hid
   refine wpList_loadW rfl 51 (.tmp 18) rfl b18 rfl B_b18 Try.underlying51 (by kernel_rfl) (fun v64 H_v64=>?_)
   obtain rfl:=H_v63.out
   obtain rfl:=H_v64.out
   clear H_v63 H_v64
   go_wp2_with ((with_reducible refine zst (L:=[44,41,31,51]) ?_ ?_); exact rfl)
   unfold Hid
   refine wpList_litB rfl 51 2 #[.slice ka0 x.calls.length kc0,I x.at_,.bool x.sent,I x.gen,.slice kx0 x.box.length ky0,.slice kg0 x.got.length kh0,.slice ka2 (comeCn x bs).calls.length kc2,I (comeCn x bs).at_,.bool (comeCn x bs).sent,I (comeCn x bs).gen,.slice kx2 (comeCn x bs).box.length ky2,.slice kg2 (comeCn x bs).got.length kh2] (by kernel_rfl) (fun b65 w103_ M103=>?_)
   have D_b16_b65:=zld B_b16 M103
   have D_b17_b65:=zld B_b17 M103
   have D_b18_b65:=zld B_b18 M103
   replace B_b16:=zmo M103 B_b16
   replace B_b17:=zmo M103 B_b17
   replace B_b18:=zmo M103 B_b18
   have B_b65:=zmb M103
   replace Q1:=zme M103 Q1
   replace Q2:=zme M103 Q2
   replace Q3:=zme M103 Q3
   replace HBS:=zme M103 HBS
   replace R1:=zme M103 R1
   replace R2:=zme M103 R2
   replace EW:=zet EW M103
   go_wp2_with fail
   replace SZC : Hid (wc.heap.size ≤ w103_.heap.size):=by unfold Hid; have q:=SZC.out; have q2:=M103.out.size; have q3:=M103.out.at_; omega
   have EQ0:=EW
   go_loopw [67] (fun i wr=>∃ j : Nat,j ≤ 2 ∧ i = I j ∧ Ext w103_ wr) (fun i _=>2 - (intOf i).toNat)
   case atStart=>exact ⟨0,Nat.zero_le _,rfl,Ext.refl _⟩
   case round =>
    obtain ⟨j,hj,rfl,hex2⟩:=hrel
    replace EW:=Lib.hid (Ext.refl w103_)
    have HX2:=Lib.hid hex2
    replace B_b16:=zbx B_b16 hex2
    replace B_b17:=zbx B_b17 hex2
    replace B_b18:=zbx B_b18 hex2
    replace B_b65:=zbx B_b65 hex2
    replace Q1:=zrx Q1 hex2
    replace Q2:=zrx Q2 hex2
    replace Q3:=zrx Q3 hex2
    replace HBS:=zrx HBS hex2
    replace R1:=zrx R1 hex2
    replace R2:=zrx R2 hex2
    replace EW:=Lib.hid (EW.out.trans hex2)
    clear hex2
    by_cases hlt2 : j < 2
    case neg =>
     have hkb : k < 1000:=by have q:=HLT.out; omega
     go_wp2
     go_roundw
     case rel=>exact ⟨k + 1,by omega,by go_num,EQ0.out.trans HX2.out⟩
     case measure=>have:=HLT.out; simp [intOf]; omega
    obtain ⟨d,x1,x2,x3,hrg,d1,d2,d3,gd⟩ : ∃ (d : Cn) (x1 x2 x3 : Value),wr.rangeAt b65 (j * 6) [x1,I d.at_,.bool d.sent,I d.gen,x2,x3] ∧ Rd U (fun w=>RowOf 4 elCl w x1 d.calls) wr ∧ Rd U (fun w=>RowOf 1 elBs w x2 d.box) wr ∧ Rd U (fun w=>RowOf 2 elRp w x3 d.got) wr ∧ GoodC d:=by
     have hjj : j = 0 ∨ j = 1:=by omega
     rcases hjj with rfl | rfl
     ·exact ⟨x,_,_,_,range_of B_b65.out [.slice ka0 x.calls.length kc0,I x.at_,.bool x.sent,I x.gen,.slice kx0 x.box.length ky0,.slice kg0 x.got.length kh0] rfl,Q1.out,Q2.out,Q3.out,GX.out.1⟩
     ·have q:=R2.out.imp fun _ h=>cn_iff.1 h
      exact ⟨(comeCn x bs),_,_,_,range_of B_b65.out [.slice ka2 (comeCn x bs).calls.length kc2,I (comeCn x bs).at_,.bool (comeCn x bs).sent,I (comeCn x bs).gen,.slice kx2 (comeCn x bs).box.length ky2,.slice kg2 (comeCn x bs).got.length kh2] rfl,q.left,q.right.left,q.right.right,GY.out⟩
    obtain ⟨ka3,kc3,rfl⟩:=rowOf_slice d1.out
    obtain ⟨kx3,ky3,rfl⟩:=rowOf_slice d2.out
    obtain ⟨kg3,kh3,rfl⟩:=rowOf_slice d3.out
    have HRG:=Lib.hid hrg
    have E1:=Lib.hid d1
    have E2:=Lib.hid d2
    have E3:=Lib.hid d3
    have GDD:=Lib.hid gd
    have hli2 : (j : Int) < 2:=by omega
    have hl02 : (0 : Int) ≤ (j : Int):=by omega
    have HJ:=Lib.hid hlt2
    clear hrg d1 d2 d3 gd hlt2 hj Q1 Q2 Q3 R1 R2 HBS
    go_wp2_with ((with_reducible refine zst (L:=[44,41,31,51]) ?_ ?_); exact rfl)
    unfold Hid
    clear hli2 hl02
    refine wpList_loadR rfl 51 (.tmp 69) rfl b65 (j * 6) rfl [.slice ka3 d.calls.length kc3,I d.at_,.bool d.sent,I d.gen,.slice kx3 d.box.length ky3,.slice kg3 d.got.length kh3] HRG.out Try.underlying51 (by kernel_rfl) (fun v70 H_v70=>?_)
    go_wp2_with ((with_reducible refine zst (L:=[44,41,31,51]) ?_ ?_); exact rfl)
    unfold Hid
    have SU : Hid (∀ k,U k → k < wr.heap.size):=fun k h=>by have q:=(HU.out k).1 h; have q2:=SZC.out; have q3:=HX2.out.size; omega
    refine wpList_allocB rfl 51 #[.slice none 0 0,I 0,.bool false,I 0,.slice none 0 0,.slice none 0 0] (by kernel_rfl) (fun b21 w201_ M201=>?_)
    have B_b21:=zmb M201
    replace E1:=zme M201 E1
    replace E2:=zme M201 E2
    replace E3:=zme M201 E3
    replace EW:=zet EW M201
    have N_b21 : Hid (¬ U b21):=fun q=>by have q1:=SU.out _ q; have q2:=M201.out.at_; omega
    have O_b21 : Hid (w103_.heap.size ≤ b21):=by unfold Hid; have q:=M201.out.at_; have q3:=HX2.out.size; omega
    go_wp2_with ((with_reducible refine zst (L:=[44,41,31,51]) ?_ ?_); exact rfl)
    unfold Hid
    refine wpList_storeW rfl 51 (.tmp 21) (.tmp 70) rfl b21 rfl _ (zcv H_v70) B_b21 rfl (by kernel_rfl) rfl (fun w202_ M202=>?_)
    replace B_b21:=zwb M202
    replace E1:=zwr M202 E1 N_b21
    replace E2:=zwr M202 E2 N_b21
    replace E3:=zwr M202 E3 N_b21
    replace EW:=zwe M202 EW O_b21
    go_wp2_with ((with_reducible refine zst (L:=[44,41,31,51]) ?_ ?_); exact rfl)
    unfold Hid
    refine wpList_loadW rfl 51 (.tmp 21) rfl b21 rfl B_b21 Try.underlying51 (by kernel_rfl) (fun v72 H_v72=>?_)
    go_wp2_with fail
    rw [H_v72.out]
    clear H_v72 SU
    obtain ⟨gx,gb,ge,hgo⟩ : ∃ x y z,goCn d me gen up = (x,y,z):=⟨_,_,_,rfl⟩
    have HG:=Lib.hid hgo
    clear hgo
    obtain ⟨G4,HG4⟩ : ∃ X : Nat → Prop,Hid (∀ k,X k ↔ (U k ∨ w202_.heap.size ≤ k)):=⟨_,fun _=>Iff.rfl⟩
    replace E1:=Lib.hid (E1.out.widen (B:=G4) fun k _ h=>(HG4.out k).2 (.inl h))
    replace E2:=Lib.hid (E2.out.widen (B:=G4) fun k _ h=>(HG4.out k).2 (.inl h))
    replace E3:=Lib.hid (E3.out.widen (B:=G4) fun k _ h=>(HG4.out k).2 (.inl h))
    replace N_b21 : Hid (¬ G4 b21):=zgrC HG4 N_b21 B_b21
    refine (HGO.out d _ _ _ me gen up w202_ G4 E1.out E2.out E3.out GDD.out hm0 (by omega)).to fun r wg4 eg hr=>?_
    rw [HG.out] at hr
    obtain ⟨cs,bv,rfl,hcs,hbv⟩:=rd_tup3 hr
    obtain ⟨x1,x2,x3,rfl,r1,r2,r3⟩:=rd_cn hcs
    obtain ⟨ka4,kc4,rfl⟩:=rowOf_slice r1.out
    obtain ⟨kx4,ky4,rfl⟩:=rowOf_slice r2.out
    obtain ⟨kg4,kh4,rfl⟩:=rowOf_slice r3.out
    obtain ⟨pa4,pc4,rfl⟩:=row_slice hbv.out
    have hin : ∀ k,k < wg4.heap.size → (G4 k ∨ w202_.heap.size ≤ k) → G4 k:=fun k _ h=>(HG4.out k).2 (by rcases h with h | h; exact (HG4.out k).1 h; exact .inr h)
    have T4:=Lib.hid ((hcs.and hbv).widen hin)
    clear hr hcs hbv r1 r2 r3 hin
    replace B_b21:=zbx B_b21 eg
    replace E1:=zrx E1 eg
    replace E2:=zrx E2 eg
    replace E3:=zrx E3 eg
    replace EW:=Lib.hid (EW.out.trans eg)
    clear eg
    go_wp2_with ((with_reducible refine zst (L:=[44,41,31,51]) ?_ ?_); exact rfl)
    unfold Hid
    refine wpList_allocB rfl 51 #[.slice none 0 0,I 0,.bool false,I 0,.slice none 0 0,.slice none 0 0] (by kernel_rfl) (fun b22 w203_ M203=>?_)
    have D_b21_b22:=zld B_b21 M203
    obtain ⟨G41,HG41⟩ : ∃ X : Nat → Prop,Hid (∀ k,X k ↔ (G4 k ∧ k ≠ b22)):=⟨_,fun _=>Iff.rfl⟩
    replace E1:=zmd HG41 M203 E1
    replace E2:=zmd HG41 M203 E2
    replace E3:=zmd HG41 M203 E3
    replace T4:=zmd HG41 M203 T4
    replace N_b21:=znw HG41 N_b21
    have N_b22 : Hid (¬ G41 b22):=fun h=>((HG41.out _).1 h).2 rfl
    have I_G41 : Hid (∀ k,G41 k → G4 k):=fun k h=>((HG41.out k).1 h).1
    have O_b22 : Hid (w103_.heap.size ≤ b22):=by unfold Hid; have q2:=M203.out.at_; have q3:=EW.out.size; omega
    replace B_b21:=zmo M203 B_b21
    have B_b22:=zmb M203
    replace E1:=zme M203 E1
    replace E2:=zme M203 E2
    replace E3:=zme M203 E3
    replace T4:=zme M203 T4
    replace EW:=zet EW M203
    go_wp2_with ((with_reducible refine zst (L:=[44,41,31,51]) ?_ ?_); exact rfl)
    unfold Hid
    refine wpList_storeW rfl 51 (.tmp 22) (.tmp 77) rfl b22 rfl [.slice ka4 gx.calls.length kc4,I gx.at_,.bool gx.sent,I gx.gen,.slice kx4 gx.box.length ky4,.slice kg4 gx.got.length kh4] (rfl) B_b22 rfl (by kernel_rfl) rfl (fun w204_ M204=>?_)
    replace B_b21:=zwl M204 B_b21 D_b21_b22
    replace B_b22:=zwb M204
    replace E1:=zwr M204 E1 N_b22
    replace E2:=zwr M204 E2 N_b22
    replace E3:=zwr M204 E3 N_b22
    replace T4:=zwr M204 T4 N_b22
    replace EW:=zwe M204 EW O_b22
    go_wp2_with ((with_reducible refine zst (L:=[44,41,31,51]) ?_ ?_); exact rfl)
    unfold Hid
    refine wpList_loadW rfl 51 (.tmp 21) rfl b21 rfl B_b21 Try.underlying51 (by kernel_rfl) (fun v81 H_v81=>?_)
    go_wp2_with fail
    rw [H_v81.out]
    clear H_v81
    obtain ⟨G5,HG5⟩ : ∃ X : Nat → Prop,Hid (∀ k,X k ↔ (G41 k ∨ w204_.heap.size ≤ k)):=⟨_,fun _=>Iff.rfl⟩
    replace E1:=Lib.hid (E1.out.widen (B:=G5) fun k _ h=>(HG5.out k).2 (.inl h))
    replace E2:=Lib.hid (E2.out.widen (B:=G5) fun k _ h=>(HG5.out k).2 (.inl h))
    replace E3:=Lib.hid (E3.out.widen (B:=G5) fun k _ h=>(HG5.out k).2 (.inl h))
    replace T4:=Lib.hid (T4.out.widen (B:=G5) fun k _ h=>(HG5.out k).2 (.inl h))
    replace N_b21 : Hid (¬ G5 b21):=zgrC HG5 N_b21 B_b21
    replace N_b22 : Hid (¬ G5 b22):=zgrC HG5 N_b22 B_b22
    refine (refClientGo_keeps d _ _ _ me gen up w204_ G5 E1.out E2.out E3.out GDD.out.at0 (by have q:=GDD.out.at1; omega) (by have q:=GDD.out.got; omega)).to fun r wg5 eg hr=>?_
    rw [HG.out] at hr
    obtain ⟨cs,bv,rfl,hcs,hbv⟩:=rd_tup3 hr
    obtain ⟨x1,x2,x3,rfl,r1,r2,r3⟩:=rd_cn hcs
    obtain ⟨ka5,kc5,rfl⟩:=rowOf_slice r1.out
    obtain ⟨kx5,ky5,rfl⟩:=rowOf_slice r2.out
    obtain ⟨kg5,kh5,rfl⟩:=rowOf_slice r3.out
    obtain ⟨pa5,pc5,rfl⟩:=row_slice hbv.out
    have hin : ∀ k,k < wg5.heap.size → (G5 k ∨ w204_.heap.size ≤ k) → G5 k:=fun k _ h=>(HG5.out k).2 (by rcases h with h | h; exact (HG5.out k).1 h; exact .inr h)
    have T5:=Lib.hid ((hcs.and hbv).widen hin)
    clear hr hcs hbv r1 r2 r3 hin
    replace B_b21:=zbx B_b21 eg
    replace B_b22:=zbx B_b22 eg
    replace E1:=zrx E1 eg
    replace E2:=zrx E2 eg
    replace E3:=zrx E3 eg
    replace T4:=zrx T4 eg
    replace EW:=Lib.hid (EW.out.trans eg)
    clear eg
    go_wp2_with ((with_reducible refine zst (L:=[44,41,31,51]) ?_ ?_); exact rfl)
    unfold Hid
    refine wpList_allocB rfl 51 #[.slice none 0 0,I 0,.bool false,I 0,.slice none 0 0,.slice none 0 0] (by kernel_rfl) (fun b25 w205_ M205=>?_)
    have D_b21_b25:=zld B_b21 M205
    have D_b22_b25:=zld B_b22 M205
    obtain ⟨G51,HG51⟩ : ∃ X : Nat → Prop,Hid (∀ k,X k ↔ (G5 k ∧ k ≠ b25)):=⟨_,fun _=>Iff.rfl⟩
    replace E1:=zmd HG51 M205 E1
    replace E2:=zmd HG51 M205 E2
    replace E3:=zmd HG51 M205 E3
    replace T4:=zmd HG51 M205 T4
    replace T5:=zmd HG51 M205 T5
    replace N_b21:=znw HG51 N_b21
    replace N_b22:=znw HG51 N_b22
    have N_b25 : Hid (¬ G51 b25):=fun h=>((HG51.out _).1 h).2 rfl
    have I_G51 : Hid (∀ k,G51 k → G5 k):=fun k h=>((HG51.out k).1 h).1
    have O_b25 : Hid (w103_.heap.size ≤ b25):=by unfold Hid; have q2:=M205.out.at_; have q3:=EW.out.size; omega
    replace B_b21:=zmo M205 B_b21
    replace B_b22:=zmo M205 B_b22
    have B_b25:=zmb M205
    replace E1:=zme M205 E1
    replace E2:=zme M205 E2
    replace E3:=zme M205 E3
    replace T4:=zme M205 T4
    replace T5:=zme M205 T5
    replace EW:=zet EW M205
    go_wp2_with ((with_reducible refine zst (L:=[44,41,31,51]) ?_ ?_); exact rfl)
    unfold Hid
    refine wpList_storeW rfl 51 (.tmp 25) (.tmp 86) rfl b25 rfl [.slice ka5 gx.calls.length kc5,I gx.at_,.bool gx.sent,I gx.gen,.slice kx5 gx.box.length ky5,.slice kg5 gx.got.length kh5] (rfl) B_b25 rfl (by kernel_rfl) rfl (fun w206_ M206=>?_)
    replace B_b21:=zwl M206 B_b21 D_b21_b25
    replace B_b22:=zwl M206 B_b22 D_b22_b25
    replace B_b25:=zwb M206
    replace E1:=zwr M206 E1 N_b25
    replace E2:=zwr M206 E2 N_b25
    replace E3:=zwr M206 E3 N_b25
    replace T4:=zwr M206 T4 N_b25
    replace T5:=zwr M206 T5 N_b25
    replace EW:=zwe M206 EW O_b25
    have hcv1:=run_string_of (P:=Try.prog) T4.out.out.2 Try.underlying24 Try.underlying5 Try.underlying9
    have hcv2:=run_string_of (P:=Try.prog) T5.out.out.2 Try.underlying24 Try.underlying5 Try.underlying9
    go_wp2_with ((with_reducible refine zst (L:=[44,41,31,51]) ?_ ?_); exact rfl)
    unfold Hid
    clear hcv1 hcv2
    refine wpList_loadGC rfl 51 (.tmp 22) rfl b22 0 rfl B_b22 [.slice ka4 gx.calls.length kc4,I gx.at_,.bool gx.sent,I gx.gen,.slice kx4 gx.box.length ky4,.slice kg4 gx.got.length kh4] rfl Try.underlying51 (by kernel_rfl) (fun v100 H_v100=>?_)
    go_wp2_with ((with_reducible refine zst (L:=[44,41,31,51]) ?_ ?_); exact rfl)
    unfold Hid
    refine wpList_loadGC rfl 51 (.tmp 25) rfl b25 0 rfl B_b25 [.slice ka5 gx.calls.length kc5,I gx.at_,.bool gx.sent,I gx.gen,.slice kx5 gx.box.length ky5,.slice kg5 gx.got.length kh5] rfl Try.underlying51 (by kernel_rfl) (fun v101 H_v101=>?_)
    go_wp2_with fail
    rw [H_v100.out,H_v101.out]
    clear H_v100 H_v101
    refine Calls.exts (sameClient_eq gx _ _ _ _ _ _ w206_ T4.out.out.1 T5.out.out.1) (fun wd2 ed2=>?_)
    replace B_b21:=zbx B_b21 ed2
    replace B_b22:=zbx B_b22 ed2
    replace B_b25:=zbx B_b25 ed2
    replace E1:=zrx E1 ed2
    replace E2:=zrx E2 ed2
    replace E3:=zrx E3 ed2
    replace T4:=zrx T4 ed2
    replace T5:=zrx T5 ed2
    replace EW:=Lib.hid (EW.out.trans ed2)
    clear ed2
    have HX3 : Hid (Ext w103_ wd2):=EW.out
    have hjb : j < 1000:=by have q:=HJ.out; omega
    go_wp2
    go_roundw
    case rel=>exact ⟨j + 1,by have q:=HJ.out; omega,by go_num,HX3.out⟩
    case measure=>have:=HJ.out; simp [intOf]; omega

end Go.Proofs.Ytdmipnnfoolelae
