/- Texts of the proof, merged: V8. -/
import Derived.Test.YtdmipnnfooleladGreatJU

namespace Go.Proofs.YtdmipnnfooleladGreat
open Go.RowKit Go.Mk
set_option maxRecDepth 100000

/-- A request that was done is answered again, an older one is not. -/
theorem serve_once {s : St} {v : Sv} {q : Rq} (hq : wrongRq q = 0) {a : An} (hl : lastAn s.answers q.client = (a,true)) (ht : q.token ≤ a.token) (hb : v.busy = false) (hx : v.box = []) :
  ∃ nv XV XB,comeSv v (reqB q) = (nv,0) ∧ Sy s v 400 = Sy s v 400 ∧ serveM s nv = (s,XV,XB,0) ∧ XV.busy = false ∧ XV.box = [] ∧ (q.token < a.token → XB = []) ∧ (q.token = a.token → XB = ansB a):=by
 have hr:=readRq_req hq
 have h1 : comeSv v (reqB q) = ({ v with box:=[reqB q] },0):=by
  unfold comeSv
  rw [hx]
  rfl
 by_cases he : a.token = q.token
 ·refine ⟨_,{ v with box:=[] },ansB a,h1,rfl,?_,hb,rfl,fun h=>by omega,fun _=>rfl⟩
  unfold serveM
  dsimp only
  rw [hb,hr]
  dsimp only
  rw [hl,if_neg (by simp),if_neg (by simp),if_pos ⟨rfl,ht⟩,if_pos he]
 ·refine ⟨_,{ v with box:=[] },[],h1,rfl,?_,hb,rfl,fun _=>rfl,fun h=>absurd h.symm he⟩
  unfold serveM
  dsimp only
  rw [hb,hr]
  dsimp only
  rw [hl,if_neg (by simp),if_neg (by simp),if_pos ⟨rfl,ht⟩,if_neg he]

set_option maxHeartbeats 8000000 in
theorem ServeOnce_any (v0 v1 : Value) (l : List (List Cl)) (steps : List (Int × Int)) (qc qt qk qa qo qn : Int) (w : World) (h0 : RowOf 1 elCls w v0 l) (h1 : Writes w v1 steps) :
  Gives Tryz.prog 4 #[v0,v1,.agg #[I qc,I qt,I qk,I qa,I qo,I qn]] w fun r _=>r = .bool true:=by
 refine gives_exts ?_
 have HV:=Lib.hid h0
 have HSTP:=Lib.hid h1
 obtain ⟨za,zc,rfl⟩:=rowOf_slice h0
 obtain ⟨ta,tc,rfl⟩:=row_slice h1
 clear h0 h1
 have EW:=Lib.hid (Ext.refl w)
 obtain ⟨B,HB0⟩ : ∃ B : Nat → Prop,Hid (∀ k,B k ↔ True):=⟨_,fun _=>Iff.rfl⟩
 go_enter Tryz.func4,Tryz.ntmps4
 go_wp2_with ((with_reducible refine zst (L:=[44,41,31,100]) ?_ ?_); exact rfl)
 unfold Hid
 refine wpList_boxB rfl 36 (.tmp 2) rfl #[I qc,I qt,I qk,I qa,I qo,I qn] rfl (fun b5 w1_ M1=>?_)
 obtain ⟨B1,HB1⟩ : ∃ X : Nat → Prop,Hid (∀ k,X k ↔ (B k ∧ k ≠ b5)):=⟨_,fun _=>Iff.rfl⟩
 have N_b5 : Hid (¬ B1 b5):=fun h=>((HB1.out _).1 h).2 rfl
 have I_B1 : Hid (∀ k,B1 k → B k):=fun k h=>((HB1.out k).1 h).1
 have O_b5 : Hid (w.heap.size ≤ b5):=by unfold Hid; have q2:=M1.out.at_; have q3:=EW.out.size; omega
 have B_b5:=zmb M1
 replace EW:=zet EW M1
 go_wp2_with fail
 refine (aliveServe_any w1_).to fun r wa ea hr=>?_
 subst hr
 replace B_b5:=zbx B_b5 ea
 replace EW:=Lib.hid (EW.out.trans ea)
 clear ea
 go_wp2_with fail
 refine (refRight_any _ l wa (HV.out.ext monoCls' EW.out)).mono ?_
 rintro e wr0 ⟨bR,rfl,hbR,e0⟩
 replace B_b5:=zbx B_b5 e0
 replace EW:=Lib.hid (EW.out.trans e0)
 clear e0
 cases bR
 case false =>
  go_wp2
  go_ret
  exact ⟨rfl,EW.out⟩
 have HRL:=Lib.hid (hbR.1 rfl)
 clear hbR
 have e0:=cell_of (i:=0) B_b5.out rfl
 have e1:=cell_of (i:=1) B_b5.out rfl
 have e2:=cell_of (i:=2) B_b5.out rfl
 have e3:=cell_of (i:=3) B_b5.out rfl
 have e4:=cell_of (i:=4) B_b5.out rfl
 have e5:=cell_of (i:=5) B_b5.out rfl
 go_wp2_with fail
 clear e0 e1 e2 e3 e4 e5
 refine Calls.exts (refWrongRequest_any qc qt qk qa qo qn wr0) (fun wr1 e1=>?_)
 replace B_b5:=zbx B_b5 e1
 replace EW:=Lib.hid (EW.out.trans e1)
 clear e1
 by_cases hq : wrongRq ⟨qc,qt,⟨qk,qa,qo,qn⟩⟩ = 0
 case neg =>
  have hqb : (wrongRq ⟨qc,qt,⟨qk,qa,qo,qn⟩⟩ != 0) = true:=by simpa using hq
  generalize wrongRq ⟨qc,qt,⟨qk,qa,qo,qn⟩⟩ = WQ at *
  go_wp2
  go_ret
  exact ⟨rfl,EW.out⟩
 have HWQ:=Lib.hid hq
 rw [hq]
 clear hq
 go_wp2_with fail
 refine (refPlay_keeps _ _ l steps wr1 (fun k=>k ≠ b5) HRL.out ((Rd.widen (Rd.of (rowOf_heap heapCls _ _) HV.out) (fun k hk _=>by have q:=O_b5.out; omega)).ext EW.out) (HSTP.out.ext EW.out)).to fun r wp ep hr=>?_
 obtain ⟨cs,es,rfl,hm,hes⟩:=rd_play hr
 obtain ⟨mk,hmk⟩ : ∃ mk,playM (newMc l) (steps.take 400) = mk:=⟨_,rfl⟩
 have hsy:=sy_play HRL.out steps
 rw [hmk] at hm hsy
 have HMK:=Lib.hid hmk
 obtain ⟨c,u,a,p,box,plan,cl,rfl,hM⟩:=rd_mc hm
 obtain ⟨ca,cc,ua,uc,aa,ac,pa,pc,xa,xc,la,lc,ka,kc,rfl,rfl,rfl,rfl,rfl,rfl,rfl⟩:=hM.slices
 have H:=Lib.hid (hM.widen (B:=B1) (fun k _ h=>(HB1.out k).2 ⟨(HB0.out k).2 trivial,fun e=>by rcases h with h | h; exact h e; have q:=(Array.getElem?_eq_some_iff.1 B_b5.out).1; omega⟩))
 have SY0:=Lib.hid hsy
 obtain ⟨esa,esc,rfl⟩:=row_slice hes.out
 clear hM hm hr hes hmk hsy HV HSTP
 replace B_b5:=zbx B_b5 ep
 replace EW:=Lib.hid (EW.out.trans ep)
 clear ep
 go_wp2_with ((with_reducible refine zst (L:=[44,41,31,100]) ?_ ?_); exact rfl)
 unfold Hid
 refine wpList_allocB rfl 44 #[.slice none 0 0,.slice none 0 0,.slice none 0 0,.slice none 0 0,I 0,.slice none 0 0,.bool false,I 0,I 0,I 0,I 0,I 0,I 0,.slice none 0 0,I 0,I 0,.bool false,I 0,I 0,.slice none 0 0] (by kernel_rfl) (fun b7 w2_ M2=>?_)
 have D_b5_b7:=zld B_b5 M2
 obtain ⟨B11,HB11⟩ : ∃ X : Nat → Prop,Hid (∀ k,X k ↔ (B1 k ∧ k ≠ b7)):=⟨_,fun _=>Iff.rfl⟩
 replace H:=Lib.hid (H.out.widen (B:=B11) (fun k hk h=>(HB11.out k).2 ⟨h,by have q2:=M2.out.at_; omega⟩))
 replace N_b5:=znw HB11 N_b5
 have N_b7 : Hid (¬ B11 b7):=fun h=>((HB11.out _).1 h).2 rfl
 have I_B11 : Hid (∀ k,B11 k → B1 k):=fun k h=>((HB11.out k).1 h).1
 have O_b7 : Hid (w.heap.size ≤ b7):=by unfold Hid; have q2:=M2.out.at_; have q3:=EW.out.size; omega
 replace B_b5:=zmo M2 B_b5
 have B_b7:=zmb M2
 replace H:=Lib.hid (H.out.ext M2.out.ext)
 replace EW:=zet EW M2
 go_wp2_with ((with_reducible refine zst (L:=[44,41,31,100]) ?_ ?_); exact rfl)
 unfold Hid
 refine wpList_storeW rfl 44 (.tmp 7) (.tmp 30) rfl b7 rfl [.slice ca mk.store.cells.length cc,.slice ua mk.store.undo.length uc,.slice aa mk.store.answers.length ac,.slice pa mk.store.past.length pc,I mk.server.gen,.slice xa mk.server.box.length xc,.bool mk.server.busy,I mk.server.now.client,I mk.server.now.token,I mk.server.now.call.kind,I mk.server.now.call.name,I mk.server.now.call.other,I mk.server.now.call.n,.slice la mk.server.plan.length lc,I mk.server.says.err,I mk.server.says.n,.bool mk.up,I mk.pause,I mk.falls,.slice ka mk.clients.length kc] (rfl) B_b7 rfl (by kernel_rfl) rfl (fun w3_ M3=>?_)
 replace B_b5:=zwl M3 B_b5 D_b5_b7
 replace B_b7:=zwb M3
 replace H:=Lib.hid (M3.out.rdM H.out N_b7.out)
 replace EW:=zwe M3 EW O_b7
 go_wp2_with ((with_reducible refine zst (L:=[44,41,31,100]) ?_ ?_); exact rfl)
 unfold Hid
 refine wpList_loadP rfl 31 (.tmp 33) rfl b7 0 rfl B_b7 [.slice ca mk.store.cells.length cc,.slice ua mk.store.undo.length uc,.slice aa mk.store.answers.length ac,.slice pa mk.store.past.length pc] rfl Tryz.underlying31 (by kernel_rfl) (fun v34 H_v34=>?_)
 have e0:=cell_of (i:=0) B_b5.out rfl
 go_wp2_with fail
 clear e0
 rw [H_v34.out]
 obtain ⟨⟨lc2,lt,⟨le,ln⟩⟩,LB,hL⟩ : ∃ x y,lastAn mk.store.answers qc = (x,y):=⟨_,_,rfl⟩
 have HL:=Lib.hid hL
 have hl:=refLast_any _ _ _ _ mk.store qc w3_ (st_rd H.out.cells H.out.undo H.out.answers H.out.past).out
 rw [hL] at hl
 refine Calls.exts hl (fun wl el=>?_)
 clear hl hL H_v34
 replace B_b5:=zbx B_b5 el
 replace B_b7:=zbx B_b7 el
 replace H:=Lib.hid (H.out.ext el)
 replace EW:=Lib.hid (EW.out.trans el)
 clear el
 go_wp2_with ((with_reducible refine zst (L:=[44,41,31,100]) ?_ ?_); exact rfl)
 unfold Hid
 refine wpList_allocB rfl 59 #[I 0,I 0,I 0,I 0] (by kernel_rfl) (fun b9 w4_ M4=>?_)
 have D_b5_b9:=zld B_b5 M4
 have D_b7_b9:=zld B_b7 M4
 obtain ⟨B111,HB111⟩ : ∃ X : Nat → Prop,Hid (∀ k,X k ↔ (B11 k ∧ k ≠ b9)):=⟨_,fun _=>Iff.rfl⟩
 replace H:=Lib.hid (H.out.widen (B:=B111) (fun k hk h=>(HB111.out k).2 ⟨h,by have q2:=M4.out.at_; omega⟩))
 replace N_b5:=znw HB111 N_b5
 replace N_b7:=znw HB111 N_b7
 have N_b9 : Hid (¬ B111 b9):=fun h=>((HB111.out _).1 h).2 rfl
 have I_B111 : Hid (∀ k,B111 k → B11 k):=fun k h=>((HB111.out k).1 h).1
 have O_b9 : Hid (w.heap.size ≤ b9):=by unfold Hid; have q2:=M4.out.at_; have q3:=EW.out.size; omega
 replace B_b5:=zmo M4 B_b5
 replace B_b7:=zmo M4 B_b7
 have B_b9:=zmb M4
 replace H:=Lib.hid (H.out.ext M4.out.ext)
 replace EW:=zet EW M4
 go_wp2_with ((with_reducible refine zst (L:=[44,41,31,100]) ?_ ?_); exact rfl)
 unfold Hid
 refine wpList_storeW rfl 59 (.tmp 9) (.tmp 38) rfl b9 rfl [I lc2,I lt,I le,I ln] (rfl) B_b9 rfl (by kernel_rfl) rfl (fun w5_ M5=>?_)
 replace B_b5:=zwl M5 B_b5 D_b5_b9
 replace B_b7:=zwl M5 B_b7 D_b7_b9
 replace B_b9:=zwb M5
 replace H:=Lib.hid (M5.out.rdM H.out N_b9.out)
 replace EW:=zwe M5 EW O_b9
 have e1:=cell_of (i:=1) B_b5.out rfl
 have l1:=cell_of (i:=1) B_b9.out rfl
 have m6:=cell_of (i:=6) B_b7.out rfl
 have m5:=cell_of (i:=5) B_b7.out rfl
 cases LB
 case false =>
  go_wp2
  go_ret
  exact ⟨rfl,EW.out⟩
 by_cases hgt : lt < qt
 case pos =>
  go_wp2
  go_ret
  exact ⟨rfl,EW.out⟩
 by_cases hbz : mk.server.busy = true
 case pos =>
  go_wp2
  go_ret
  exact ⟨rfl,EW.out⟩
 replace hbz : mk.server.busy = false:=by simpa using hbz
 by_cases hlx : 0 < mk.server.box.length
 case pos =>
  have hli : (0 : Int) < (mk.server.box.length : Int):=by omega
  go_wp2
  go_ret
  exact ⟨rfl,EW.out⟩
 have hli : ¬ (0 : Int) < (mk.server.box.length : Int):=by omega
 obtain ⟨nv,XV,XB,hcm,-,hsv,hvb,hvx,hx1,hx2⟩:=serve_once (q:=⟨qc,qt,⟨qk,qa,qo,qn⟩⟩) (a:=⟨lc2,lt,⟨le,ln⟩⟩) (v:=mk.server) (s:=mk.store) HWQ.out HL.out (by simp only []; omega) hbz (List.eq_nil_of_length_eq_zero (by omega))
 have hsyn:=sy_come SY0.out (b:=reqB ⟨qc,qt,⟨qk,qa,qo,qn⟩⟩) (Nat.le_of_ble_eq_true rfl)
 rw [hcm] at hsyn
 have SY1:=Lib.hid hsyn
 have HCM:=Lib.hid hcm
 have HSV:=Lib.hid hsv
 have HVB:=Lib.hid (And.intro hvb hvx)
 have HXB:=Lib.hid (And.intro hx1 hx2)
 clear hcm hsv hvb hvx hx1 hx2 hsyn
 go_upto_region 9 with fail
 clear hli hbz hlx e1 l1 m6 m5
 have SZK : Hid (b9 < w5_.heap.size ∧ b7 < w5_.heap.size ∧ b5 < w5_.heap.size):=⟨(Array.getElem?_eq_some_iff.1 B_b9.out).1,(Array.getElem?_eq_some_iff.1 B_b7.out).1,(Array.getElem?_eq_some_iff.1 B_b5.out).1⟩
 go_cut [11,12] (fun p4 e6 wc=>∃ (b11 : Nat) (xa1 : Option Addr) (xc1 : Nat) (la1 : Option Addr) (lc1 : Nat),p4 = .pointer (some ⟨b11,0,none⟩) ∧ e6 = I 0 ∧ w5_.heap.size ≤ b11 ∧ wc.heap[b11]? = some (.cells #[I nv.gen,.slice xa1 nv.box.length xc1,.bool nv.busy,I nv.now.client,I nv.now.token,I nv.now.call.kind,I nv.now.call.name,I nv.now.call.other,I nv.now.call.n,.slice la1 nv.plan.length lc1,I nv.says.err,I nv.says.n] 41 (0,0)) ∧ Ext w5_ wc ∧ Rd (fun k=>w5_.heap.size ≤ k ∧ k ≠ b11) (fun w=>elSv w [I nv.gen,.slice xa1 nv.box.length xc1,.bool nv.busy,I nv.now.client,I nv.now.token,I nv.now.call.kind,I nv.now.call.name,I nv.now.call.other,I nv.now.call.n,.slice la1 nv.plan.length lc1,I nv.says.err,I nv.says.n] nv) wc)
 case first =>
  go_wp2_with fail
  refine held_drew (S:=fun w'=>w'.heap[b7]? = some (.cells #[.slice ca mk.store.cells.length cc,.slice ua mk.store.undo.length uc,.slice aa mk.store.answers.length ac,.slice pa mk.store.past.length pc,I mk.server.gen,.slice xa mk.server.box.length xc,.bool mk.server.busy,I mk.server.now.client,I mk.server.now.token,I mk.server.now.call.kind,I mk.server.now.call.name,I mk.server.now.call.other,I mk.server.now.call.n,.slice la mk.server.plan.length lc,I mk.server.says.err,I mk.server.says.n,.bool mk.up,I mk.pause,I mk.falls,.slice ka mk.clients.length kc] 44 (0,0)) ∧ w'.heap[b5]? = some (.cells #[I qc,I qt,I qk,I qa,I qo,I qn] 36 (0,0))) (by kernel_rfl) (fun wd ed _=>?_)
  replace B_b5:=zbx B_b5 ed
  replace B_b7:=zbx B_b7 ed
  replace B_b9:=zbx B_b9 ed
  replace H:=Lib.hid (H.out.ext ed)
  replace EW:=Lib.hid (EW.out.trans ed)
  have HSS : Hid (wd.heap[b7]? = some (.cells #[.slice ca mk.store.cells.length cc,.slice ua mk.store.undo.length uc,.slice aa mk.store.answers.length ac,.slice pa mk.store.past.length pc,I mk.server.gen,.slice xa mk.server.box.length xc,.bool mk.server.busy,I mk.server.now.client,I mk.server.now.token,I mk.server.now.call.kind,I mk.server.now.call.name,I mk.server.now.call.other,I mk.server.now.call.n,.slice la mk.server.plan.length lc,I mk.server.says.err,I mk.server.says.n,.bool mk.up,I mk.pause,I mk.falls,.slice ka mk.clients.length kc] 44 (0,0)) ∧ wd.heap[b5]? = some (.cells #[I qc,I qt,I qk,I qa,I qo,I qn] 36 (0,0))):=⟨B_b7.out,B_b5.out⟩
  have EXK : Hid (Ext w5_ wd):=ed
  clear ed
  refine held_pure 0 rfl (by kernel_rfl) (by kernel_rfl) (by kernel_rfl) (fun _ _ _ _ h=>h) rfl HSS.out (fun K hK=>?_); go_simp; refine hK _ ?_; clear hK K
  refine held_take 1 rfl (by kernel_rfl) (by kernel_rfl) (by kernel_rfl) (fun _ _ _ _ h=>h) (.agg #[I mk.server.gen,.slice xa mk.server.box.length xc,.bool mk.server.busy,I mk.server.now.client,I mk.server.now.token,I mk.server.now.call.kind,I mk.server.now.call.name,I mk.server.now.call.other,I mk.server.now.call.n,.slice la mk.server.plan.length lc,I mk.server.says.err,I mk.server.says.n]) rfl (fun w' hS=>run_loadM 41 (.tmp 62) rfl b7 4 rfl hS.1 [I mk.server.gen,.slice xa mk.server.box.length xc,.bool mk.server.busy,I mk.server.now.client,I mk.server.now.token,I mk.server.now.call.kind,I mk.server.now.call.name,I mk.server.now.call.other,I mk.server.now.call.n,.slice la mk.server.plan.length lc,I mk.server.says.err,I mk.server.says.n] rfl Tryz.underlying41 (by kernel_rfl)) HSS.out ?_
  refine held_norm (fun K hK=>?_); go_simp; refine hK _ ?_; clear hK K
  refine held_loadW 2 rfl (by kernel_rfl) (by kernel_rfl) (by kernel_rfl) (fun _ _ _ _ h=>h) rfl 36 (.tmp 5) rfl b5 rfl (fun w' hS=>hS.2) Tryz.underlying36 (by kernel_rfl) HSS ?_
  refine held_norm (fun K hK=>?_); go_simp; refine hK _ ?_; clear hK K
  refine held_two 3 8 (by kernel_rfl) ?_ ?_
  ·refine wpOp_call rfl rfl 18 #[.agg #[I qc,I qt,I qk,I qa,I qo,I qn]] (by go_simp) ?_
   refine (RequestBytes_any qc qt qk qa qo qn wd).to fun qv wq eq hq=>?_
   obtain ⟨qva,qvc,rfl⟩:=row_slice hq
   have HQV:=Lib.hid hq
   clear hq
   replace B_b5:=zbx B_b5 eq
   replace B_b7:=zbx B_b7 eq
   replace B_b9:=zbx B_b9 eq
   replace H:=Lib.hid (H.out.ext eq)
   replace EW:=Lib.hid (EW.out.trans eq)
   replace EXK:=Lib.hid (EXK.out.trans eq)
   clear HSS
   refine ⟨_,rfl,⟨B_b7.out,B_b5.out⟩,?_⟩
   have HSS : Hid (wq.heap[b7]? = some (.cells #[.slice ca mk.store.cells.length cc,.slice ua mk.store.undo.length uc,.slice aa mk.store.answers.length ac,.slice pa mk.store.past.length pc,I mk.server.gen,.slice xa mk.server.box.length xc,.bool mk.server.busy,I mk.server.now.client,I mk.server.now.token,I mk.server.now.call.kind,I mk.server.now.call.name,I mk.server.now.call.other,I mk.server.now.call.n,.slice la mk.server.plan.length lc,I mk.server.says.err,I mk.server.says.n,.bool mk.up,I mk.pause,I mk.falls,.slice ka mk.clients.length kc] 44 (0,0)) ∧ wq.heap[b5]? = some (.cells #[I qc,I qt,I qk,I qa,I qo,I qn] 36 (0,0))):=⟨B_b7.out,B_b5.out⟩
   refine held_norm (fun K hK=>?_); go_simp; refine hK _ ?_; clear hK K
   refine held_two 4 8 (by kernel_rfl) ?_ ?_
   ·refine wpOp_call rfl rfl 8 #[.agg #[I mk.server.gen,.slice xa mk.server.box.length xc,.bool mk.server.busy,I mk.server.now.client,I mk.server.now.token,I mk.server.now.call.kind,I mk.server.now.call.name,I mk.server.now.call.other,I mk.server.now.call.n,.slice la mk.server.plan.length lc,I mk.server.says.err,I mk.server.says.n],.slice qva (reqB ⟨qc,qt,⟨qk,qa,qo,qn⟩⟩).length qvc] (by go_simp) ?_
    refine (Come_keeps mk.server _ _ _ (reqB ⟨qc,qt,⟨qk,qa,qo,qn⟩⟩) wq H.out.box.out H.out.plan.out HQV.out (small_sy SY0.out (by decide)).2 (Nat.le_of_ble_eq_true rfl)).to fun r wg eg hr=>?_
    rw [HCM.out] at hr
    obtain ⟨cs,rfl,hcs⟩:=rd_tupE hr
    obtain ⟨box1,plan1,rfl,r1,r2⟩:=rd_sv hcs
    obtain ⟨xa1,xc1,rfl⟩:=rowOf_slice r1.out
    obtain ⟨la1,lc1,rfl⟩:=row_slice r2.out
    have RC : Hid (Rd (fun k=>w5_.heap.size ≤ k) (fun w=>elSv w [I nv.gen,.slice xa1 nv.box.length xc1,.bool nv.busy,I nv.now.client,I nv.now.token,I nv.now.call.kind,I nv.now.call.name,I nv.now.call.other,I nv.now.call.n,.slice la1 nv.plan.length lc1,I nv.says.err,I nv.says.n] nv) wg):=hcs.widen fun k _ h=>by rcases h with h | h; exact h.elim; have q:=EXK.out.size; omega
    clear hr hcs r1 r2
    replace B_b5:=zbx B_b5 eg
    replace B_b7:=zbx B_b7 eg
    replace B_b9:=zbx B_b9 eg
    replace H:=Lib.hid (H.out.ext eg)
    replace EW:=Lib.hid (EW.out.trans eg)
    replace EXK:=Lib.hid (EXK.out.trans eg)
    clear HSS
    refine ⟨_,rfl,⟨B_b7.out,B_b5.out⟩,?_⟩
    have HSS : Hid (wg.heap[b7]? = some (.cells #[.slice ca mk.store.cells.length cc,.slice ua mk.store.undo.length uc,.slice aa mk.store.answers.length ac,.slice pa mk.store.past.length pc,I mk.server.gen,.slice xa mk.server.box.length xc,.bool mk.server.busy,I mk.server.now.client,I mk.server.now.token,I mk.server.now.call.kind,I mk.server.now.call.name,I mk.server.now.call.other,I mk.server.now.call.n,.slice la mk.server.plan.length lc,I mk.server.says.err,I mk.server.says.n,.bool mk.up,I mk.pause,I mk.falls,.slice ka mk.clients.length kc] 44 (0,0)) ∧ wg.heap[b5]? = some (.cells #[I qc,I qt,I qk,I qa,I qo,I qn] 36 (0,0))):=⟨B_b7.out,B_b5.out⟩
    refine held_norm (fun K hK=>?_); go_simp; refine hK _ ?_; clear hK K
    refine held_pure 5 rfl (by kernel_rfl) (by kernel_rfl) (by kernel_rfl) (fun _ _ _ _ h=>h) rfl HSS.out (fun K hK=>?_); go_simp; refine hK _ ?_; clear hK K
    refine held_pure 6 rfl (by kernel_rfl) (by kernel_rfl) (by kernel_rfl) (fun _ _ _ _ h=>h) rfl HSS.out (fun K hK=>?_); go_simp; refine hK _ ?_; clear hK K
    refine held_pure 7 rfl (by kernel_rfl) (by kernel_rfl) (by kernel_rfl) (fun _ _ _ _ h=>h) rfl HSS.out (fun K hK=>?_); go_simp; refine hK _ ?_; clear hK K
    refine held_all 8 (by kernel_rfl) ?_
    refine wpOp_alloc rfl rfl 41 #[I 0,.slice none 0 0,.bool false,I 0,I 0,I 0,I 0,I 0,I 0,.slice none 0 0,I 0,I 0] (by kernel_rfl) (fun b11 wb MB=>⟨⟨MB.out.old B_b7.out,MB.out.old B_b5.out⟩,?_⟩)
    have HB11 : Hid (w5_.heap.size ≤ b11):=by unfold Hid; have q:=MB.out.at_; have q3:=EXK.out.size; omega
    have D_b7_b11:=zld B_b7 MB
    have D_b5_b11:=zld B_b5 MB
    replace RC:=Lib.hid ((RC.out.widen (B:=fun k=>w5_.heap.size ≤ k ∧ k ≠ b11) (fun k hk h=>⟨h,by have q:=MB.out.at_; omega⟩)).ext MB.out.ext)
    replace H:=Lib.hid (H.out.ext MB.out.ext)
    replace B_b7:=zmo MB B_b7
    replace B_b5:=zmo MB B_b5
    have B_b11:=zmb MB
    replace EXK:=zet EXK MB
    replace EW:=zet EW MB
    clear HSS
    have HSS : Hid (wb.heap[b7]? = some (.cells #[.slice ca mk.store.cells.length cc,.slice ua mk.store.undo.length uc,.slice aa mk.store.answers.length ac,.slice pa mk.store.past.length pc,I mk.server.gen,.slice xa mk.server.box.length xc,.bool mk.server.busy,I mk.server.now.client,I mk.server.now.token,I mk.server.now.call.kind,I mk.server.now.call.name,I mk.server.now.call.other,I mk.server.now.call.n,.slice la mk.server.plan.length lc,I mk.server.says.err,I mk.server.says.n,.bool mk.up,I mk.pause,I mk.falls,.slice ka mk.clients.length kc] 44 (0,0)) ∧ wb.heap[b5]? = some (.cells #[I qc,I qt,I qk,I qa,I qo,I qn] 36 (0,0))):=⟨B_b7.out,B_b5.out⟩
    refine held_norm (fun K hK=>?_); go_simp; refine hK _ ?_; clear hK K
    refine held_storeW 9 (by kernel_rfl) rfl rfl 41 (.tmp 11) (.tmp 67) rfl b11 rfl [I nv.gen,.slice xa1 nv.box.length xc1,.bool nv.busy,I nv.now.client,I nv.now.token,I nv.now.call.kind,I nv.now.call.name,I nv.now.call.other,I nv.now.call.n,.slice la1 nv.plan.length lc1,I nv.says.err,I nv.says.n] rfl B_b11 rfl (by kernel_rfl) rfl (fun wy MY=>⟨⟨MY.out.old B_b7.out (Nat.ne_of_lt D_b7_b11.out),MY.out.old B_b5.out (Nat.ne_of_lt D_b5_b11.out)⟩,?_⟩)
    replace RC:=Lib.hid (MY.out.rd RC.out (fun h=>h.2 rfl))
    replace B_b7:=zwl MY B_b7 D_b7_b11
    replace B_b5:=zwl MY B_b5 D_b5_b11
    replace B_b11:=zwb MY
    replace EXK:=Lib.hid (MY.out.ext EXK.out HB11.out)
    clear HSS
    have HSS : Hid (wy.heap[b7]? = some (.cells #[.slice ca mk.store.cells.length cc,.slice ua mk.store.undo.length uc,.slice aa mk.store.answers.length ac,.slice pa mk.store.past.length pc,I mk.server.gen,.slice xa mk.server.box.length xc,.bool mk.server.busy,I mk.server.now.client,I mk.server.now.token,I mk.server.now.call.kind,I mk.server.now.call.name,I mk.server.now.call.other,I mk.server.now.call.n,.slice la mk.server.plan.length lc,I mk.server.says.err,I mk.server.says.n,.bool mk.up,I mk.pause,I mk.falls,.slice ka mk.clients.length kc] 44 (0,0)) ∧ wy.heap[b5]? = some (.cells #[I qc,I qt,I qk,I qa,I qo,I qn] 36 (0,0))):=⟨B_b7.out,B_b5.out⟩
    refine held_norm (fun K hK=>?_); go_simp; refine hK _ ?_; clear hK K
    refine held_value 10 (by kernel_rfl) rfl rfl _ rfl HSS.out ?_
    refine held_norm (fun K hK=>?_); go_simp; refine hK _ ?_; clear hK K
    refine wpAnyH_done (by kernel_rfl) ?_ _
    clear HSS
    go_wp2_with fail
    go_meet
    case rel=>exact ⟨b11,_,_,_,_,rfl,rfl,HB11.out,B_b11.out,EXK.out,RC.out⟩
   ·refine wpOp_alloc rfl rfl 41 #[I 0,.slice none 0 0,.bool false,I 0,I 0,I 0,I 0,I 0,I 0,.slice none 0 0,I 0,I 0] (by kernel_rfl) (fun b11 wb MB=>⟨⟨MB.out.old B_b7.out,MB.out.old B_b5.out⟩,?_⟩)
    have HB11 : Hid (w5_.heap.size ≤ b11):=by unfold Hid; have q:=MB.out.at_; have q3:=EXK.out.size; omega
    have D_b7_b11:=zld B_b7 MB
    have D_b5_b11:=zld B_b5 MB
    replace H:=Lib.hid (H.out.ext MB.out.ext)
    replace B_b7:=zmo MB B_b7
    replace B_b5:=zmo MB B_b5
    have B_b11:=zmb MB
    replace EXK:=zet EXK MB
    replace EW:=zet EW MB
    replace HQV:=Lib.hid (HQV.out.ext MB.out.ext)
    clear HSS
    have HSS : Hid (wb.heap[b7]? = some (.cells #[.slice ca mk.store.cells.length cc,.slice ua mk.store.undo.length uc,.slice aa mk.store.answers.length ac,.slice pa mk.store.past.length pc,I mk.server.gen,.slice xa mk.server.box.length xc,.bool mk.server.busy,I mk.server.now.client,I mk.server.now.token,I mk.server.now.call.kind,I mk.server.now.call.name,I mk.server.now.call.other,I mk.server.now.call.n,.slice la mk.server.plan.length lc,I mk.server.says.err,I mk.server.says.n,.bool mk.up,I mk.pause,I mk.falls,.slice ka mk.clients.length kc] 44 (0,0)) ∧ wb.heap[b5]? = some (.cells #[I qc,I qt,I qk,I qa,I qo,I qn] 36 (0,0))):=⟨B_b7.out,B_b5.out⟩
    refine held_norm (fun K hK=>?_); go_simp; refine hK _ ?_; clear hK K
    refine held_all 4 (by kernel_rfl) ?_
    refine wpOp_call rfl rfl 8 #[.agg #[I mk.server.gen,.slice xa mk.server.box.length xc,.bool mk.server.busy,I mk.server.now.client,I mk.server.now.token,I mk.server.now.call.kind,I mk.server.now.call.name,I mk.server.now.call.other,I mk.server.now.call.n,.slice la mk.server.plan.length lc,I mk.server.says.err,I mk.server.says.n],.slice qva (reqB ⟨qc,qt,⟨qk,qa,qo,qn⟩⟩).length qvc] (by go_simp) ?_
    have SZA2 : Hid (b11 < wb.heap.size):=(Array.getElem?_eq_some_iff.1 B_b11.out).1
    refine (Come_keeps mk.server _ _ _ (reqB ⟨qc,qt,⟨qk,qa,qo,qn⟩⟩) wb H.out.box.out H.out.plan.out HQV.out (small_sy SY0.out (by decide)).2 (Nat.le_of_ble_eq_true rfl)).to fun r wg eg hr=>?_
    rw [HCM.out] at hr
    obtain ⟨cs,rfl,hcs⟩:=rd_tupE hr
    obtain ⟨box1,plan1,rfl,r1,r2⟩:=rd_sv hcs
    obtain ⟨xa1,xc1,rfl⟩:=rowOf_slice r1.out
    obtain ⟨la1,lc1,rfl⟩:=row_slice r2.out
    have RC : Hid (Rd (fun k=>w5_.heap.size ≤ k ∧ k ≠ b11) (fun w=>elSv w [I nv.gen,.slice xa1 nv.box.length xc1,.bool nv.busy,I nv.now.client,I nv.now.token,I nv.now.call.kind,I nv.now.call.name,I nv.now.call.other,I nv.now.call.n,.slice la1 nv.plan.length lc1,I nv.says.err,I nv.says.n] nv) wg):=hcs.widen fun k _ h=>⟨by rcases h with h | h; exact h.elim; have q:=EXK.out.size; omega,by rcases h with h | h; exact h.elim; have q:=SZA2.out; omega⟩
    clear hr hcs r1 r2
    replace B_b5:=zbx B_b5 eg
    replace B_b7:=zbx B_b7 eg
    replace B_b11:=zbx B_b11 eg
    replace H:=Lib.hid (H.out.ext eg)
    replace EW:=Lib.hid (EW.out.trans eg)
    replace EXK:=Lib.hid (EXK.out.trans eg)
    clear HSS
    refine ⟨_,rfl,⟨B_b7.out,B_b5.out⟩,?_⟩
    have HSS : Hid (wg.heap[b7]? = some (.cells #[.slice ca mk.store.cells.length cc,.slice ua mk.store.undo.length uc,.slice aa mk.store.answers.length ac,.slice pa mk.store.past.length pc,I mk.server.gen,.slice xa mk.server.box.length xc,.bool mk.server.busy,I mk.server.now.client,I mk.server.now.token,I mk.server.now.call.kind,I mk.server.now.call.name,I mk.server.now.call.other,I mk.server.now.call.n,.slice la mk.server.plan.length lc,I mk.server.says.err,I mk.server.says.n,.bool mk.up,I mk.pause,I mk.falls,.slice ka mk.clients.length kc] 44 (0,0)) ∧ wg.heap[b5]? = some (.cells #[I qc,I qt,I qk,I qa,I qo,I qn] 36 (0,0))):=⟨B_b7.out,B_b5.out⟩
    refine held_norm (fun K hK=>?_); go_simp; refine hK _ ?_; clear hK K
    refine held_pure 5 rfl (by kernel_rfl) (by kernel_rfl) (by kernel_rfl) (fun _ _ _ _ h=>h) rfl HSS.out (fun K hK=>?_); go_simp; refine hK _ ?_; clear hK K
    refine held_pure 6 rfl (by kernel_rfl) (by kernel_rfl) (by kernel_rfl) (fun _ _ _ _ h=>h) rfl HSS.out (fun K hK=>?_); go_simp; refine hK _ ?_; clear hK K
    refine held_pure 7 rfl (by kernel_rfl) (by kernel_rfl) (by kernel_rfl) (fun _ _ _ _ h=>h) rfl HSS.out (fun K hK=>?_); go_simp; refine hK _ ?_; clear hK K
    refine held_storeW 9 (by kernel_rfl) rfl rfl 41 (.tmp 11) (.tmp 67) rfl b11 rfl [I nv.gen,.slice xa1 nv.box.length xc1,.bool nv.busy,I nv.now.client,I nv.now.token,I nv.now.call.kind,I nv.now.call.name,I nv.now.call.other,I nv.now.call.n,.slice la1 nv.plan.length lc1,I nv.says.err,I nv.says.n] rfl B_b11 rfl (by kernel_rfl) rfl (fun wy MY=>⟨⟨MY.out.old B_b7.out (Nat.ne_of_lt D_b7_b11.out),MY.out.old B_b5.out (Nat.ne_of_lt D_b5_b11.out)⟩,?_⟩)
    replace RC:=Lib.hid (MY.out.rd RC.out (fun h=>h.2 rfl))
    replace B_b7:=zwl MY B_b7 D_b7_b11
    replace B_b5:=zwl MY B_b5 D_b5_b11
    replace B_b11:=zwb MY
    replace EXK:=Lib.hid (MY.out.ext EXK.out HB11.out)
    clear HSS
    have HSS : Hid (wy.heap[b7]? = some (.cells #[.slice ca mk.store.cells.length cc,.slice ua mk.store.undo.length uc,.slice aa mk.store.answers.length ac,.slice pa mk.store.past.length pc,I mk.server.gen,.slice xa mk.server.box.length xc,.bool mk.server.busy,I mk.server.now.client,I mk.server.now.token,I mk.server.now.call.kind,I mk.server.now.call.name,I mk.server.now.call.other,I mk.server.now.call.n,.slice la mk.server.plan.length lc,I mk.server.says.err,I mk.server.says.n,.bool mk.up,I mk.pause,I mk.falls,.slice ka mk.clients.length kc] 44 (0,0)) ∧ wy.heap[b5]? = some (.cells #[I qc,I qt,I qk,I qa,I qo,I qn] 36 (0,0))):=⟨B_b7.out,B_b5.out⟩
    refine held_norm (fun K hK=>?_); go_simp; refine hK _ ?_; clear hK K
    refine held_value 10 (by kernel_rfl) rfl rfl _ rfl HSS.out ?_
    refine held_norm (fun K hK=>?_); go_simp; refine hK _ ?_; clear hK K
    refine wpAnyH_done (by kernel_rfl) ?_ _
    clear HSS
    go_wp2_with fail
    go_meet
    case rel=>exact ⟨b11,_,_,_,_,rfl,rfl,HB11.out,B_b11.out,EXK.out,RC.out⟩
  ·refine wpOp_alloc rfl rfl 41 #[I 0,.slice none 0 0,.bool false,I 0,I 0,I 0,I 0,I 0,I 0,.slice none 0 0,I 0,I 0] (by kernel_rfl) (fun b11 wb MB=>⟨⟨MB.out.old B_b7.out,MB.out.old B_b5.out⟩,?_⟩)
   have HB11 : Hid (w5_.heap.size ≤ b11):=by unfold Hid; have q:=MB.out.at_; have q3:=EXK.out.size; omega
   have D_b7_b11:=zld B_b7 MB
   have D_b5_b11:=zld B_b5 MB
   replace H:=Lib.hid (H.out.ext MB.out.ext)
   replace B_b7:=zmo MB B_b7
   replace B_b5:=zmo MB B_b5
   have B_b11:=zmb MB
   replace EXK:=zet EXK MB
   replace EW:=zet EW MB
   clear HSS
   have HSS : Hid (wb.heap[b7]? = some (.cells #[.slice ca mk.store.cells.length cc,.slice ua mk.store.undo.length uc,.slice aa mk.store.answers.length ac,.slice pa mk.store.past.length pc,I mk.server.gen,.slice xa mk.server.box.length xc,.bool mk.server.busy,I mk.server.now.client,I mk.server.now.token,I mk.server.now.call.kind,I mk.server.now.call.name,I mk.server.now.call.other,I mk.server.now.call.n,.slice la mk.server.plan.length lc,I mk.server.says.err,I mk.server.says.n,.bool mk.up,I mk.pause,I mk.falls,.slice ka mk.clients.length kc] 44 (0,0)) ∧ wb.heap[b5]? = some (.cells #[I qc,I qt,I qk,I qa,I qo,I qn] 36 (0,0))):=⟨B_b7.out,B_b5.out⟩
   refine held_norm (fun K hK=>?_); go_simp; refine hK _ ?_; clear hK K
   refine held_all 3 (by kernel_rfl) ?_
   refine wpOp_call rfl rfl 18 #[.agg #[I qc,I qt,I qk,I qa,I qo,I qn]] (by go_simp) ?_
   refine (RequestBytes_any qc qt qk qa qo qn wb).to fun qv wq eq hq=>?_
   obtain ⟨qva,qvc,rfl⟩:=row_slice hq
   have HQV:=Lib.hid hq
   clear hq
   replace B_b5:=zbx B_b5 eq
   replace B_b7:=zbx B_b7 eq
   replace B_b11:=zbx B_b11 eq
   replace H:=Lib.hid (H.out.ext eq)
   replace EW:=Lib.hid (EW.out.trans eq)
   replace EXK:=Lib.hid (EXK.out.trans eq)
   clear HSS
   refine ⟨_,rfl,⟨B_b7.out,B_b5.out⟩,?_⟩
   have HSS : Hid (wq.heap[b7]? = some (.cells #[.slice ca mk.store.cells.length cc,.slice ua mk.store.undo.length uc,.slice aa mk.store.answers.length ac,.slice pa mk.store.past.length pc,I mk.server.gen,.slice xa mk.server.box.length xc,.bool mk.server.busy,I mk.server.now.client,I mk.server.now.token,I mk.server.now.call.kind,I mk.server.now.call.name,I mk.server.now.call.other,I mk.server.now.call.n,.slice la mk.server.plan.length lc,I mk.server.says.err,I mk.server.says.n,.bool mk.up,I mk.pause,I mk.falls,.slice ka mk.clients.length kc] 44 (0,0)) ∧ wq.heap[b5]? = some (.cells #[I qc,I qt,I qk,I qa,I qo,I qn] 36 (0,0))):=⟨B_b7.out,B_b5.out⟩
   refine held_norm (fun K hK=>?_); go_simp; refine hK _ ?_; clear hK K
   refine held_all 4 (by kernel_rfl) ?_
   refine wpOp_call rfl rfl 8 #[.agg #[I mk.server.gen,.slice xa mk.server.box.length xc,.bool mk.server.busy,I mk.server.now.client,I mk.server.now.token,I mk.server.now.call.kind,I mk.server.now.call.name,I mk.server.now.call.other,I mk.server.now.call.n,.slice la mk.server.plan.length lc,I mk.server.says.err,I mk.server.says.n],.slice qva (reqB ⟨qc,qt,⟨qk,qa,qo,qn⟩⟩).length qvc] (by go_simp) ?_
   have SZA2 : Hid (b11 < wq.heap.size):=(Array.getElem?_eq_some_iff.1 B_b11.out).1
   refine (Come_keeps mk.server _ _ _ (reqB ⟨qc,qt,⟨qk,qa,qo,qn⟩⟩) wq H.out.box.out H.out.plan.out HQV.out (small_sy SY0.out (by decide)).2 (Nat.le_of_ble_eq_true rfl)).to fun r wg eg hr=>?_
   rw [HCM.out] at hr
   obtain ⟨cs,rfl,hcs⟩:=rd_tupE hr
   obtain ⟨box1,plan1,rfl,r1,r2⟩:=rd_sv hcs
   obtain ⟨xa1,xc1,rfl⟩:=rowOf_slice r1.out
   obtain ⟨la1,lc1,rfl⟩:=row_slice r2.out
   have RC : Hid (Rd (fun k=>w5_.heap.size ≤ k ∧ k ≠ b11) (fun w=>elSv w [I nv.gen,.slice xa1 nv.box.length xc1,.bool nv.busy,I nv.now.client,I nv.now.token,I nv.now.call.kind,I nv.now.call.name,I nv.now.call.other,I nv.now.call.n,.slice la1 nv.plan.length lc1,I nv.says.err,I nv.says.n] nv) wg):=hcs.widen fun k _ h=>⟨by rcases h with h | h; exact h.elim; have q:=EXK.out.size; omega,by rcases h with h | h; exact h.elim; have q:=SZA2.out; omega⟩
   clear hr hcs r1 r2
   replace B_b5:=zbx B_b5 eg
   replace B_b7:=zbx B_b7 eg
   replace B_b11:=zbx B_b11 eg
   replace H:=Lib.hid (H.out.ext eg)
   replace EW:=Lib.hid (EW.out.trans eg)
   replace EXK:=Lib.hid (EXK.out.trans eg)
   clear HSS
   refine ⟨_,rfl,⟨B_b7.out,B_b5.out⟩,?_⟩
   have HSS : Hid (wg.heap[b7]? = some (.cells #[.slice ca mk.store.cells.length cc,.slice ua mk.store.undo.length uc,.slice aa mk.store.answers.length ac,.slice pa mk.store.past.length pc,I mk.server.gen,.slice xa mk.server.box.length xc,.bool mk.server.busy,I mk.server.now.client,I mk.server.now.token,I mk.server.now.call.kind,I mk.server.now.call.name,I mk.server.now.call.other,I mk.server.now.call.n,.slice la mk.server.plan.length lc,I mk.server.says.err,I mk.server.says.n,.bool mk.up,I mk.pause,I mk.falls,.slice ka mk.clients.length kc] 44 (0,0)) ∧ wg.heap[b5]? = some (.cells #[I qc,I qt,I qk,I qa,I qo,I qn] 36 (0,0))):=⟨B_b7.out,B_b5.out⟩
   refine held_norm (fun K hK=>?_); go_simp; refine hK _ ?_; clear hK K
   refine held_pure 5 rfl (by kernel_rfl) (by kernel_rfl) (by kernel_rfl) (fun _ _ _ _ h=>h) rfl HSS.out (fun K hK=>?_); go_simp; refine hK _ ?_; clear hK K
   refine held_pure 6 rfl (by kernel_rfl) (by kernel_rfl) (by kernel_rfl) (fun _ _ _ _ h=>h) rfl HSS.out (fun K hK=>?_); go_simp; refine hK _ ?_; clear hK K
   refine held_pure 7 rfl (by kernel_rfl) (by kernel_rfl) (by kernel_rfl) (fun _ _ _ _ h=>h) rfl HSS.out (fun K hK=>?_); go_simp; refine hK _ ?_; clear hK K
   refine held_storeW 9 (by kernel_rfl) rfl rfl 41 (.tmp 11) (.tmp 67) rfl b11 rfl [I nv.gen,.slice xa1 nv.box.length xc1,.bool nv.busy,I nv.now.client,I nv.now.token,I nv.now.call.kind,I nv.now.call.name,I nv.now.call.other,I nv.now.call.n,.slice la1 nv.plan.length lc1,I nv.says.err,I nv.says.n] rfl B_b11 rfl (by kernel_rfl) rfl (fun wy MY=>⟨⟨MY.out.old B_b7.out (Nat.ne_of_lt D_b7_b11.out),MY.out.old B_b5.out (Nat.ne_of_lt D_b5_b11.out)⟩,?_⟩)
   replace RC:=Lib.hid (MY.out.rd RC.out (fun h=>h.2 rfl))
   replace B_b7:=zwl MY B_b7 D_b7_b11
   replace B_b5:=zwl MY B_b5 D_b5_b11
   replace B_b11:=zwb MY
   replace EXK:=Lib.hid (MY.out.ext EXK.out HB11.out)
   clear HSS
   have HSS : Hid (wy.heap[b7]? = some (.cells #[.slice ca mk.store.cells.length cc,.slice ua mk.store.undo.length uc,.slice aa mk.store.answers.length ac,.slice pa mk.store.past.length pc,I mk.server.gen,.slice xa mk.server.box.length xc,.bool mk.server.busy,I mk.server.now.client,I mk.server.now.token,I mk.server.now.call.kind,I mk.server.now.call.name,I mk.server.now.call.other,I mk.server.now.call.n,.slice la mk.server.plan.length lc,I mk.server.says.err,I mk.server.says.n,.bool mk.up,I mk.pause,I mk.falls,.slice ka mk.clients.length kc] 44 (0,0)) ∧ wy.heap[b5]? = some (.cells #[I qc,I qt,I qk,I qa,I qo,I qn] 36 (0,0))):=⟨B_b7.out,B_b5.out⟩
   refine held_norm (fun K hK=>?_); go_simp; refine hK _ ?_; clear hK K
   refine held_value 10 (by kernel_rfl) rfl rfl _ rfl HSS.out ?_
   refine held_norm (fun K hK=>?_); go_simp; refine hK _ ?_; clear hK K
   refine wpAnyH_done (by kernel_rfl) ?_ _
   clear HSS
   go_wp2_with fail
   go_meet
   case rel=>exact ⟨b11,_,_,_,_,rfl,rfl,HB11.out,B_b11.out,EXK.out,RC.out⟩
 case rest =>
  rename World=>wc
  obtain ⟨b11,xa1,xc1,la1,lc1,rfl,rfl,hb11,hB11,hex,hR⟩:=hcut
  obtain ⟨C,HC⟩ : ∃ X : Nat → Prop,Hid (∀ k,X k ↔ ((B111 k ∧ k < w5_.heap.size) ∨ (w5_.heap.size ≤ k ∧ k ≠ b11))):=⟨_,fun _=>Iff.rfl⟩
  replace H:=Lib.hid (H.out.widen (B:=C) fun k hk h=>(HC.out k).2 (.inl ⟨h,hk⟩))
  have RC:=Lib.hid (hR.widen (B:=C) fun k _ h=>(HC.out k).2 (.inr h))
  replace N_b5 : Hid (¬ C b5):=fun h=>by rcases (HC.out _).1 h with q | q; exact N_b5.out q.1; exact absurd q.1 (by have q2:=SZK.out; omega)
  replace N_b7 : Hid (¬ C b7):=fun h=>by rcases (HC.out _).1 h with q | q; exact N_b7.out q.1; exact absurd q.1 (by have q2:=SZK.out; omega)
  replace N_b9 : Hid (¬ C b9):=fun h=>by rcases (HC.out _).1 h with q | q; exact N_b9.out q.1; exact absurd q.1 (by have q2:=SZK.out; omega)
  have N_b11 : Hid (¬ C b11):=fun h=>by rcases (HC.out _).1 h with q | q; exact absurd q.2 (by omega); exact q.2 rfl
  have D_b5_b11 : Hid (b5 < b11):=by unfold Hid; have q:=SZK.out; omega
  have D_b7_b11 : Hid (b7 < b11):=by unfold Hid; have q:=SZK.out; omega
  have D_b9_b11 : Hid (b9 < b11):=by unfold Hid; have q:=SZK.out; omega
  have O_b11 : Hid (w.heap.size ≤ b11):=by unfold Hid; have q:=O_b5.out; have q2:=D_b5_b11.out; omega
  replace B_b5:=zbx B_b5 hex
  replace B_b7:=zbx B_b7 hex
  replace B_b9:=zbx B_b9 hex
  replace H:=Lib.hid (H.out.ext hex)
  replace EW:=Lib.hid (EW.out.trans hex)
  have B_b11:=Lib.hid hB11
  clear hB11 hex hR hb11 SZK
  go_wp2_with ((with_reducible refine zst (L:=[44,41,31,100]) ?_ ?_); exact rfl)
  unfold Hid
  refine wpList_loadP rfl 31 (.tmp 70) rfl b7 0 rfl B_b7 [.slice ca mk.store.cells.length cc,.slice ua mk.store.undo.length uc,.slice aa mk.store.answers.length ac,.slice pa mk.store.past.length pc] rfl Tryz.underlying31 (by kernel_rfl) (fun v71 H_v71=>?_)
  go_wp2_with ((with_reducible refine zst (L:=[44,41,31,100]) ?_ ?_); exact rfl)
  unfold Hid
  refine wpList_loadW rfl 41 (.tmp 11) rfl b11 rfl B_b11 Tryz.underlying41 (by kernel_rfl) (fun v72 H_v72=>?_)
  go_wp2_with fail
  rw [H_v71.out,H_v72.out]
  clear H_v71 H_v72
  obtain ⟨E1,HE1⟩ : ∃ X : Nat → Prop,Hid (∀ k,X k ↔ (C k ∨ wc.heap.size ≤ k)):=⟨_,fun _=>Iff.rfl⟩
  replace H:=Lib.hid (H.out.widen (B:=E1) fun k _ h=>(HE1.out k).2 (.inl h))
  replace RC:=Lib.hid (RC.out.widen (B:=E1) fun k _ h=>(HE1.out k).2 (.inl h))
  replace N_b5 : Hid (¬ E1 b5):=zgr HE1 N_b5 B_b5
  replace N_b7 : Hid (¬ E1 b7):=zgr HE1 N_b7 B_b7
  replace N_b9 : Hid (¬ E1 b9):=zgr HE1 N_b9 B_b9
  replace N_b11 : Hid (¬ E1 b11):=zgr HE1 N_b11 B_b11
  obtain ⟨x1,x2⟩:=(sv_iff (v:=nv)).1 RC.out.out
  have HSM:=Lib.hid (small_sy SY1.out (by decide))
  refine (Go_keeps mk.store.cells mk.store.undo mk.store.answers mk.store.past nv.gen nv.box nv.busy nv.now.client nv.now.token nv.now.call.kind nv.now.call.name nv.now.call.other nv.now.call.n nv.plan nv.says.err nv.says.n _ _ _ _ _ _ wc (st_rd H.out.cells H.out.undo H.out.answers H.out.past).out x1 x2 HSM.out.1 HSM.out.2 (fun _=>SY1.out.wk.cells.weak)).to fun r w9 e9 hr=>?_
  replace hr : Rd (fun k=>False ∨ wc.heap.size ≤ k) (fun w'=>Tup4 (serveM mk.store nv).1 (serveM mk.store nv).2.1 (serveM mk.store nv).2.2.1 (serveM mk.store nv).2.2.2 r w') w9:=hr
  have hin : ∀ k,k < w9.heap.size → (False ∨ wc.heap.size ≤ k) → E1 k:=fun k _ h=>(HE1.out k).2 (.inr (by rcases h with h | h; exact h.elim; exact h))
  rw [HSV.out] at hr
  obtain ⟨cs,ds,bv,rfl,hcs,hds,hbv⟩:=rd_tup4 hr
  obtain ⟨c1,u1,a1,p1,rfl,r1,r2,r3,r4⟩:=rd_st hcs
  obtain ⟨box3,plan3,rfl,r5,r6⟩:=rd_sv hds
  obtain ⟨ca1,cc1,rfl⟩:=row_slice r1.out
  obtain ⟨ua1,uc1,rfl⟩:=row_slice r2.out
  obtain ⟨aa1,ac1,rfl⟩:=rowOf_slice r3.out
  obtain ⟨pa1,pc1,rfl⟩:=rowOf_slice r4.out
  obtain ⟨xa3,xc3,rfl⟩:=rowOf_slice r5.out
  obtain ⟨la3,lc3,rfl⟩:=row_slice r6.out
  obtain ⟨ya1,yc1,rfl⟩:=row_slice hbv.out
  have RQ1:=Lib.hid (((hcs.and hds).and hbv).widen hin)
  clear hr hcs hds hbv r1 r2 r3 r4 r5 r6 hin x1 x2
  replace B_b5:=zbx B_b5 e9
  replace B_b7:=zbx B_b7 e9
  replace B_b9:=zbx B_b9 e9
  replace B_b11:=zbx B_b11 e9
  replace H:=Lib.hid (H.out.ext e9)
  replace RC:=zrx RC e9
  replace EW:=Lib.hid (EW.out.trans e9)
  clear e9
  go_wp2_with ((with_reducible refine zst (L:=[44,41,31,100]) ?_ ?_); exact rfl)
  unfold Hid
  refine wpList_allocB rfl 31 #[.slice none 0 0,.slice none 0 0,.slice none 0 0,.slice none 0 0] (by kernel_rfl) (fun b13 w6_ M6=>?_)
  have D_b5_b13:=zld B_b5 M6
  have D_b7_b13:=zld B_b7 M6
  have D_b9_b13:=zld B_b9 M6
  have D_b11_b13:=zld B_b11 M6
  obtain ⟨E11,HE11⟩ : ∃ X : Nat → Prop,Hid (∀ k,X k ↔ (E1 k ∧ k ≠ b13)):=⟨_,fun _=>Iff.rfl⟩
  replace H:=Lib.hid (H.out.widen (B:=E11) (fun k hk h=>(HE11.out k).2 ⟨h,by have q2:=M6.out.at_; omega⟩))
  replace RC:=zmd HE11 M6 RC
  replace RQ1:=zmd HE11 M6 RQ1
  replace N_b5:=znw HE11 N_b5
  replace N_b7:=znw HE11 N_b7
  replace N_b9:=znw HE11 N_b9
  replace N_b11:=znw HE11 N_b11
  have N_b13 : Hid (¬ E11 b13):=fun h=>((HE11.out _).1 h).2 rfl
  have I_E11 : Hid (∀ k,E11 k → E1 k):=fun k h=>((HE11.out k).1 h).1
  have O_b13 : Hid (w.heap.size ≤ b13):=by unfold Hid; have q2:=M6.out.at_; have q3:=EW.out.size; omega
  replace B_b5:=zmo M6 B_b5
  replace B_b7:=zmo M6 B_b7
  replace B_b9:=zmo M6 B_b9
  replace B_b11:=zmo M6 B_b11
  have B_b13:=zmb M6
  replace H:=Lib.hid (H.out.ext M6.out.ext)
  replace RC:=zme M6 RC
  replace RQ1:=zme M6 RQ1
  replace EW:=zet EW M6
  go_wp2_with ((with_reducible refine zst (L:=[44,41,31,100]) ?_ ?_); exact rfl)
  unfold Hid
  refine wpList_storeW rfl 31 (.tmp 13) (.tmp 74) rfl b13 rfl [.slice ca1 mk.store.cells.length cc1,.slice ua1 mk.store.undo.length uc1,.slice aa1 mk.store.answers.length ac1,.slice pa1 mk.store.past.length pc1] (rfl) B_b13 rfl (by kernel_rfl) rfl (fun w7_ M7=>?_)
  replace B_b5:=zwl M7 B_b5 D_b5_b13
  replace B_b7:=zwl M7 B_b7 D_b7_b13
  replace B_b9:=zwl M7 B_b9 D_b9_b13
  replace B_b11:=zwl M7 B_b11 D_b11_b13
  replace B_b13:=zwb M7
  replace H:=Lib.hid (M7.out.rdM H.out N_b13.out)
  replace RC:=zwr M7 RC N_b13
  replace RQ1:=zwr M7 RQ1 N_b13
  replace EW:=zwe M7 EW O_b13
  go_wp2_with ((with_reducible refine zst (L:=[44,41,31,100]) ?_ ?_); exact rfl)
  unfold Hid
  refine wpList_storeW rfl 41 (.tmp 11) (.tmp 75) rfl b11 rfl [I XV.gen,.slice xa3 XV.box.length xc3,.bool XV.busy,I XV.now.client,I XV.now.token,I XV.now.call.kind,I XV.now.call.name,I XV.now.call.other,I XV.now.call.n,.slice la3 XV.plan.length lc3,I XV.says.err,I XV.says.n] (rfl) B_b11 rfl (by kernel_rfl) rfl (fun w8_ M8=>?_)
  replace B_b5:=zwl M8 B_b5 D_b5_b11
  replace B_b7:=zwl M8 B_b7 D_b7_b11
  replace B_b9:=zwl M8 B_b9 D_b9_b11
  replace B_b11:=zwb M8
  replace B_b13:=zwg M8 B_b13 D_b11_b13
  replace H:=Lib.hid (M8.out.rdM H.out N_b11.out)
  replace RC:=zwr M8 RC N_b11
  replace RQ1:=zwr M8 RQ1 N_b11
  replace EW:=zwe M8 EW O_b11
  obtain ⟨hvb,hvx⟩:=HVB.out
  have hvi : ((XV.box.length : Nat) : Int) = 0:=by rw [hvx]; rfl
  clear hvx
  have ga0:=cell_of (i:=0) B_b11.out rfl
  have ga1:=cell_of (i:=1) B_b11.out rfl
  have ga2:=cell_of (i:=2) B_b11.out rfl
  have ga3:=cell_of (i:=3) B_b11.out rfl
  have ga4:=cell_of (i:=4) B_b11.out rfl
  have ga5:=cell_of (i:=5) B_b11.out rfl
  have ga6:=cell_of (i:=6) B_b11.out rfl
  have ga7:=cell_of (i:=7) B_b11.out rfl
  have ga8:=cell_of (i:=8) B_b11.out rfl
  have ga9:=cell_of (i:=9) B_b11.out rfl
  have ga10:=cell_of (i:=10) B_b11.out rfl
  have ga11:=cell_of (i:=11) B_b11.out rfl
  have gb0:=cell_of (i:=0) B_b13.out rfl
  have gb1:=cell_of (i:=1) B_b13.out rfl
  have gb2:=cell_of (i:=2) B_b13.out rfl
  have gb3:=cell_of (i:=3) B_b13.out rfl
  have gc0:=cell_of (i:=0) B_b7.out rfl
  have gc1:=cell_of (i:=1) B_b7.out rfl
  have gc2:=cell_of (i:=2) B_b7.out rfl
  have gc3:=cell_of (i:=3) B_b7.out rfl
  go_wp2_with fail
  clear ga0 ga1 ga2 ga3 ga4 ga5 ga6 ga7 ga8 ga9 ga10 ga11 gb0 gb1 gb2 gb3 gc0 gc1 gc2 gc3 hvb hvi
  refine Calls.exts (sameStore_eq _ _ _ _ _ _ _ _ mk.store w8_ RQ1.out.out.1.1 (st_rd H.out.cells H.out.undo H.out.answers H.out.past).out) (fun wC eC=>?_)
  replace B_b5:=zbx B_b5 eC
  replace B_b7:=zbx B_b7 eC
  replace B_b9:=zbx B_b9 eC
  replace B_b11:=zbx B_b11 eC
  replace B_b13:=zbx B_b13 eC
  replace H:=Lib.hid (H.out.ext eC)
  replace RC:=zrx RC eC
  replace RQ1:=zrx RQ1 eC
  replace EW:=Lib.hid (EW.out.trans eC)
  clear eC
  have e1:=cell_of (i:=1) B_b5.out rfl
  have l1:=cell_of (i:=1) B_b9.out rfl
  have l0:=cell_of (i:=0) B_b9.out rfl
  have l1:=cell_of (i:=1) B_b9.out rfl
  have l2:=cell_of (i:=2) B_b9.out rfl
  have l3:=cell_of (i:=3) B_b9.out rfl
  go_wp2_with fail
  by_cases hlt : qt < lt
  case pos =>
   have hxe:=HXB.out.1 hlt
   have hxl : ((XB.length : Nat) : Int) = 0:=by rw [hxe]; rfl
   refine wp_region_mono [none,none,none,none,none,none,none,none,none,none,none,none,none,none,none,none,none,none,none,none,none,none,none,none,none,none] (by kernel_rfl) (by kernel_rfl) ?_ ?_
   ·exact ⟨trivial,trivial,trivial,trivial,trivial,trivial,trivial,trivial,trivial,trivial,trivial,trivial,trivial,trivial,trivial,trivial,trivial,trivial,trivial,trivial,trivial,trivial,trivial,trivial,trivial,trivial,trivial⟩
   iterate 1 (refine wpM_p (fun K hK=>?_); go_simp; first | refine hK _ ?_ | refine ⟨(fun h=>by cases h),hK _ ?_⟩; clear hK K)
   refine wpM_q (I qt) rfl (fun w' hw'=>by have q0:=hw'.cell e1; go_simp) ?_
   refine wpM_norm (fun K hK=>?_); go_simp; refine hK _ ?_; clear hK K
   iterate 1 (refine wpM_p (fun K hK=>?_); go_simp; first | refine hK _ ?_ | refine ⟨(fun h=>by cases h),hK _ ?_⟩; clear hK K)
   refine wpM_q (I lt) rfl (fun w' hw'=>by have q0:=hw'.cell l1; go_simp) ?_
   refine wpM_norm (fun K hK=>?_); go_simp; refine hK _ ?_; clear hK K
   iterate 22 (refine wpM_p (fun K hK=>?_); go_simp; first | refine hK _ ?_ | refine ⟨(fun h=>by cases h),hK _ ?_⟩; clear hK K)
   refine wpM_nil ?_
   intro w6 e6 _
   replace B_b5:=zbx B_b5 e6
   replace B_b7:=zbx B_b7 e6
   replace B_b9:=zbx B_b9 e6
   replace B_b11:=zbx B_b11 e6
   replace B_b13:=zbx B_b13 e6
   replace H:=Lib.hid (H.out.ext e6)
   replace RC:=zrx RC e6
   replace RQ1:=zrx RQ1 e6
   replace EW:=Lib.hid (EW.out.trans e6)
   go_wp2
   go_ret
   exact ⟨rfl,EW.out⟩
  have hqt : qt = lt:=by omega
  subst hqt
  have hxe:=HXB.out.2 rfl
  clear HXB HSV
  subst hxe
  generalize hAB : ansB ⟨lc2,qt,⟨le,ln⟩⟩ = AX at *
  refine wp_region_mono [none,none,none,none,none,none,none,none,none,none,none,none,none,none,none,none,none,none,some (.inl (.string ⟨AX.toArray⟩)),none,some (.inr fun (r : Value) (wx : World)=>Bytes wx r AX),some (.inl (.string ⟨AX.toArray⟩)),none,none,none,none] (by kernel_rfl) (by kernel_rfl) ?_ ?_
  ·exact ⟨trivial,trivial,trivial,trivial,trivial,trivial,trivial,trivial,trivial,trivial,trivial,trivial,trivial,trivial,trivial,trivial,trivial,trivial,trivial,trivial,fun _ _ _ he h=>h.ext he,trivial,trivial,trivial,trivial,trivial,trivial⟩
  iterate 1 (refine wpM_p (fun K hK=>?_); go_simp; first | refine hK _ ?_ | refine ⟨(fun h=>by cases h),hK _ ?_⟩; clear hK K)
  refine wpM_q (I qt) rfl (fun w' hw'=>by have q0:=hw'.cell e1; go_simp) ?_
  refine wpM_norm (fun K hK=>?_); go_simp; refine hK _ ?_; clear hK K
  iterate 1 (refine wpM_p (fun K hK=>?_); go_simp; first | refine hK _ ?_ | refine ⟨(fun h=>by cases h),hK _ ?_⟩; clear hK K)
  refine wpM_q (I qt) rfl (fun w' hw'=>by have q0:=hw'.cell l1; go_simp) ?_
  refine wpM_norm (fun K hK=>?_); go_simp; refine hK _ ?_; clear hK K
  iterate 8 (refine wpM_p (fun K hK=>?_); go_simp; first | refine hK _ ?_ | refine ⟨(fun h=>by cases h),hK _ ?_⟩; clear hK K)
  refine wpM_q (I qt) rfl (fun w' hw'=>by have q0:=hw'.cell e1; go_simp) ?_
  refine wpM_norm (fun K hK=>?_); go_simp; refine hK _ ?_; clear hK K
  iterate 1 (refine wpM_p (fun K hK=>?_); go_simp; first | refine hK _ ?_ | refine ⟨(fun h=>by cases h),hK _ ?_⟩; clear hK K)
  refine wpM_q (I qt) rfl (fun w' hw'=>by have q0:=hw'.cell l1; go_simp) ?_
  refine wpM_norm (fun K hK=>?_); go_simp; refine hK _ ?_; clear hK K
  iterate 3 (refine wpM_p (fun K hK=>?_); go_simp; first | refine hK _ ?_ | refine ⟨(fun h=>by cases h),hK _ ?_⟩; clear hK K)
  refine wpM_x _ rfl (fun w' hw' hk=>?_) ?_
  ·have hcv:=run_string_of (P:=Tryz.prog) (RQ1.out.ext hw').out.2 Tryz.underlying24 Tryz.underlying5 Tryz.underlying9
   clear hk
   unfold makes
   go_simp
   exact ⟨Ext.refl _,rfl⟩
  refine wpM_norm (fun K hK=>?_); go_simp; refine hK _ ?_; clear hK K
  refine wpM_q (.agg #[I lc2,I qt,I le,I ln]) rfl (fun w' hw'=>by have q0:=hw'.cell l0; have q1:=hw'.cell l1; have q2:=hw'.cell l2; have q3:=hw'.cell l3; go_simp) ?_
  refine wpM_norm (fun K hK=>?_); go_simp; refine hK _ ?_; clear hK K
  refine wpM_l _ rfl (fun w' hw' hk=>?_) (fun v121=>?_)
  ·have hg:=(AnswerBytes_own lc2 qt le ln w').mono (fun r wx _ h=>(by rw [← hAB]; exact h.bytes : Bytes wx r AX))
   clear hk
   unfold makes
   go_simp
   exact ⟨Ext.refl _,hg⟩
  refine wpM_norm (fun K hK=>?_); go_simp; refine hK _ ?_; clear hK K
  refine wpM_x _ rfl (fun w' hw' hk=>?_) ?_
  ·have h121 : Bytes w' v121 AX:=hk 121 (by decide)
   have hcv:=run_string_of (P:=Tryz.prog) h121 Tryz.underlying24 Tryz.underlying5 Tryz.underlying9
   clear hk
   unfold makes
   go_simp
   exact ⟨Ext.refl _,rfl⟩
  refine wpM_norm (fun K hK=>?_); go_simp; refine hK _ ?_; clear hK K
  iterate 4 (refine wpM_p (fun K hK=>?_); go_simp; first | refine hK _ ?_ | refine ⟨(fun h=>by cases h),hK _ ?_⟩; clear hK K)
  refine wpM_nil ?_
  intro w6 e6 _
  replace B_b5:=zbx B_b5 e6
  replace B_b7:=zbx B_b7 e6
  replace B_b9:=zbx B_b9 e6
  replace B_b11:=zbx B_b11 e6
  replace B_b13:=zbx B_b13 e6
  replace H:=Lib.hid (H.out.ext e6)
  replace RC:=zrx RC e6
  replace RQ1:=zrx RQ1 e6
  replace EW:=Lib.hid (EW.out.trans e6)
  go_wp2
  go_ret
  exact ⟨rfl,EW.out⟩

end Go.Proofs.YtdmipnnfooleladGreat
