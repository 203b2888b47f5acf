/- Texts of the proof, merged: V9. -/
import Derived.Test.YtdmipnnfooleladGreatJU
import Derived.Test.YtdmipnnfooleladGreatJF

namespace Go.Proofs.YtdmipnnfooleladGreat
open Go.RowKit Go.Mk
set_option maxRecDepth 100000

theorem code_norm {P : Program} {c : Code} {Q : Exit → Act → World → Prop} {a : Act} {w : World} (h : ∀ K : Act → Prop,(∀ a',c.wp P Q a' w → K a') → K a) : c.wp P Q a w:=h _ (fun _ h=>h)
theorem Has.rd_ne {base b : Nat} {w : World} {u : Value} {l : List (Int × Int)} {cb : Array Value} {t : TypeId} (h : Has base w u l) (hb : w.heap[b]? = some (.cells cb t (0,0))) (hne : (79 : Nat) ≠ t) : Rd (fun k=>base ≤ k ∧ k ≠ b) (fun w=>Writes w u l) w:=by
 obtain ⟨x,m,lo,h1,h2⟩:=h
 intro w2 hw
 have h3:=own_ne h1 hb hne
 refine h2 w2 ⟨h1.1,?_⟩
 rcases h1.2 with h | ⟨g,cap,cur,e,hb2,hg,hr⟩
 ·exact .inl h
 ·refine .inr ⟨g,cap,cur,e,hb2,?_,hr⟩
  rw [hw g ⟨hb2,fun eb=>h3 (by rw [e,← eb]; rfl)⟩ (Array.getElem?_eq_some_iff.1 hg).1]
  exact hg

set_option maxHeartbeats 8000000 in
theorem ServeDoes_any (v0 v1 : Value) (l : List (List Cl)) (steps : List (Int × Int)) (qc qt qk qa qo qn : Int) (w : World) (h0 : RowOf 1 elCls w v0 l) (h1 : Writes w v1 steps) :
  Gives Tryz.prog 5 #[v0,v1,.agg #[I qc,I qt,I qk,I qa,I qo,I qn]] w fun r _=>r = .bool true:=by
 refine gives_exts ?_
 have HV:=Lib.hid h0
 have HSTP:=Lib.hid h1
 obtain ⟨za,zc,rfl⟩:=rowOf_slice h0
 obtain ⟨ta,tc,rfl⟩:=row_slice h1
 clear h0 h1
 have EW:=Lib.hid (Ext.refl w)
 obtain ⟨B,HB0⟩ : ∃ B : Nat → Prop,Hid (∀ k,B k ↔ True):=⟨_,fun _=>Iff.rfl⟩
 go_enter Tryz.func5,Tryz.ntmps5
 go_wp2_with ((with_reducible refine zst (L:=[44,41,31,100]) ?_ ?_); exact rfl)
 unfold Hid
 refine wpList_boxB rfl 36 (.tmp 2) rfl #[I qc,I qt,I qk,I qa,I qo,I qn] rfl (fun b5 w1_ M1=>?_)
 obtain ⟨B1,HB1⟩ : ∃ X : Nat → Prop,Hid (∀ k,X k ↔ (B k ∧ k ≠ b5)):=⟨_,fun _=>Iff.rfl⟩
 have N_b5 : Hid (¬ B1 b5):=fun h=>((HB1.out _).1 h).2 rfl
 have I_B1 : Hid (∀ k,B1 k → B k):=fun k h=>((HB1.out k).1 h).1
 have O_b5 : Hid (w.heap.size ≤ b5):=by unfold Hid; have q2:=M1.out.at_; have q3:=EW.out.size; omega
 have B_b5:=zmb M1
 replace EW:=zet EW M1
 go_wp2_with fail
 refine (aliveServe_any w1_).to fun r wa ea hr=>?_
 subst hr
 replace B_b5:=zbx B_b5 ea
 replace EW:=Lib.hid (EW.out.trans ea)
 clear ea
 go_wp2_with fail
 refine (refRight_any _ l wa (HV.out.ext monoCls' EW.out)).mono ?_
 rintro e wr0 ⟨bR,rfl,hbR,e0⟩
 replace B_b5:=zbx B_b5 e0
 replace EW:=Lib.hid (EW.out.trans e0)
 clear e0
 cases bR
 case false =>
  go_wp2
  go_ret
  exact ⟨rfl,EW.out⟩
 have HRL:=Lib.hid (hbR.1 rfl)
 clear hbR
 have e0:=cell_of (i:=0) B_b5.out rfl
 have e1:=cell_of (i:=1) B_b5.out rfl
 have e2:=cell_of (i:=2) B_b5.out rfl
 have e3:=cell_of (i:=3) B_b5.out rfl
 have e4:=cell_of (i:=4) B_b5.out rfl
 have e5:=cell_of (i:=5) B_b5.out rfl
 go_wp2_with fail
 clear e0 e1 e2 e3 e4 e5
 refine Calls.exts (refWrongRequest_any qc qt qk qa qo qn wr0) (fun wr1 e1=>?_)
 replace B_b5:=zbx B_b5 e1
 replace EW:=Lib.hid (EW.out.trans e1)
 clear e1
 by_cases hq : wrongRq ⟨qc,qt,⟨qk,qa,qo,qn⟩⟩ = 0
 case neg =>
  have hqb : (wrongRq ⟨qc,qt,⟨qk,qa,qo,qn⟩⟩ != 0) = true:=by simpa using hq
  generalize wrongRq ⟨qc,qt,⟨qk,qa,qo,qn⟩⟩ = WQ at *
  go_wp2
  go_ret
  exact ⟨rfl,EW.out⟩
 have HWQ:=Lib.hid hq
 rw [hq]
 clear hq
 go_wp2_with fail
 refine (refPlay_keeps _ _ l steps wr1 (fun k=>k ≠ b5) HRL.out ((Rd.widen (Rd.of (rowOf_heap heapCls _ _) HV.out) (fun k hk _=>by have q:=O_b5.out; omega)).ext EW.out) (HSTP.out.ext EW.out)).to fun r wp ep hr=>?_
 obtain ⟨cs,es,rfl,hm,hes⟩:=rd_play hr
 obtain ⟨mk,hmk⟩ : ∃ mk,playM (newMc l) (steps.take 400) = mk:=⟨_,rfl⟩
 have hsy:=sy_play HRL.out steps
 rw [hmk] at hm hsy
 have HMK:=Lib.hid hmk
 obtain ⟨c,u,a,p,box,plan,cl,rfl,hM⟩:=rd_mc hm
 obtain ⟨ca,cc,ua,uc,aa,ac,pa,pc,xa,xc,la,lc,ka,kc,rfl,rfl,rfl,rfl,rfl,rfl,rfl⟩:=hM.slices
 have H:=Lib.hid (hM.widen (B:=B1) (fun k _ h=>(HB1.out k).2 ⟨(HB0.out k).2 trivial,fun e=>by rcases h with h | h; exact h e; have q:=(Array.getElem?_eq_some_iff.1 B_b5.out).1; omega⟩))
 have SY0:=Lib.hid hsy
 obtain ⟨esa,esc,rfl⟩:=row_slice hes.out
 clear hM hm hr hes hmk hsy HV HSTP
 replace B_b5:=zbx B_b5 ep
 replace EW:=Lib.hid (EW.out.trans ep)
 clear ep
 go_wp2_with ((with_reducible refine zst (L:=[44,41,31,100]) ?_ ?_); exact rfl)
 unfold Hid
 refine wpList_allocB rfl 44 #[.slice none 0 0,.slice none 0 0,.slice none 0 0,.slice none 0 0,I 0,.slice none 0 0,.bool false,I 0,I 0,I 0,I 0,I 0,I 0,.slice none 0 0,I 0,I 0,.bool false,I 0,I 0,.slice none 0 0] (by kernel_rfl) (fun b7 w2_ M2=>?_)
 have D_b5_b7:=zld B_b5 M2
 obtain ⟨B11,HB11⟩ : ∃ X : Nat → Prop,Hid (∀ k,X k ↔ (B1 k ∧ k ≠ b7)):=⟨_,fun _=>Iff.rfl⟩
 replace H:=Lib.hid (H.out.widen (B:=B11) (fun k hk h=>(HB11.out k).2 ⟨h,by have q2:=M2.out.at_; omega⟩))
 replace N_b5:=znw HB11 N_b5
 have N_b7 : Hid (¬ B11 b7):=fun h=>((HB11.out _).1 h).2 rfl
 have I_B11 : Hid (∀ k,B11 k → B1 k):=fun k h=>((HB11.out k).1 h).1
 have O_b7 : Hid (w.heap.size ≤ b7):=by unfold Hid; have q2:=M2.out.at_; have q3:=EW.out.size; omega
 replace B_b5:=zmo M2 B_b5
 have B_b7:=zmb M2
 replace H:=Lib.hid (H.out.ext M2.out.ext)
 replace EW:=zet EW M2
 go_wp2_with ((with_reducible refine zst (L:=[44,41,31,100]) ?_ ?_); exact rfl)
 unfold Hid
 refine wpList_storeW rfl 44 (.tmp 7) (.tmp 34) rfl b7 rfl [.slice ca mk.store.cells.length cc,.slice ua mk.store.undo.length uc,.slice aa mk.store.answers.length ac,.slice pa mk.store.past.length pc,I mk.server.gen,.slice xa mk.server.box.length xc,.bool mk.server.busy,I mk.server.now.client,I mk.server.now.token,I mk.server.now.call.kind,I mk.server.now.call.name,I mk.server.now.call.other,I mk.server.now.call.n,.slice la mk.server.plan.length lc,I mk.server.says.err,I mk.server.says.n,.bool mk.up,I mk.pause,I mk.falls,.slice ka mk.clients.length kc] (rfl) B_b7 rfl (by kernel_rfl) rfl (fun w3_ M3=>?_)
 replace B_b5:=zwl M3 B_b5 D_b5_b7
 replace B_b7:=zwb M3
 replace H:=Lib.hid (M3.out.rdM H.out N_b7.out)
 replace EW:=zwe M3 EW O_b7
 go_wp2_with ((with_reducible refine zst (L:=[44,41,31,100]) ?_ ?_); exact rfl)
 unfold Hid
 refine wpList_loadP rfl 31 (.tmp 37) rfl b7 0 rfl B_b7 [.slice ca mk.store.cells.length cc,.slice ua mk.store.undo.length uc,.slice aa mk.store.answers.length ac,.slice pa mk.store.past.length pc] rfl Tryz.underlying31 (by kernel_rfl) (fun v38 H_v38=>?_)
 have e0:=cell_of (i:=0) B_b5.out rfl
 go_wp2_with fail
 clear e0
 rw [H_v38.out]
 obtain ⟨⟨lc2,lt,⟨le,ln⟩⟩,LB,hL⟩ : ∃ x y,lastAn mk.store.answers qc = (x,y):=⟨_,_,rfl⟩
 have HL:=Lib.hid hL
 have hl:=refLast_any _ _ _ _ mk.store qc w3_ (st_rd H.out.cells H.out.undo H.out.answers H.out.past).out
 rw [hL] at hl
 refine Calls.exts hl (fun wl el=>?_)
 clear hl hL H_v38
 replace B_b5:=zbx B_b5 el
 replace B_b7:=zbx B_b7 el
 replace H:=Lib.hid (H.out.ext el)
 replace EW:=Lib.hid (EW.out.trans el)
 clear el
 go_wp2_with ((with_reducible refine zst (L:=[44,41,31,100]) ?_ ?_); exact rfl)
 unfold Hid
 refine wpList_allocB rfl 59 #[I 0,I 0,I 0,I 0] (by kernel_rfl) (fun b9 w4_ M4=>?_)
 have D_b5_b9:=zld B_b5 M4
 have D_b7_b9:=zld B_b7 M4
 obtain ⟨B111,HB111⟩ : ∃ X : Nat → Prop,Hid (∀ k,X k ↔ (B11 k ∧ k ≠ b9)):=⟨_,fun _=>Iff.rfl⟩
 replace H:=Lib.hid (H.out.widen (B:=B111) (fun k hk h=>(HB111.out k).2 ⟨h,by have q2:=M4.out.at_; omega⟩))
 replace N_b5:=znw HB111 N_b5
 replace N_b7:=znw HB111 N_b7
 have N_b9 : Hid (¬ B111 b9):=fun h=>((HB111.out _).1 h).2 rfl
 have I_B111 : Hid (∀ k,B111 k → B11 k):=fun k h=>((HB111.out k).1 h).1
 have O_b9 : Hid (w.heap.size ≤ b9):=by unfold Hid; have q2:=M4.out.at_; have q3:=EW.out.size; omega
 replace B_b5:=zmo M4 B_b5
 replace B_b7:=zmo M4 B_b7
 have B_b9:=zmb M4
 replace H:=Lib.hid (H.out.ext M4.out.ext)
 replace EW:=zet EW M4
 go_wp2_with ((with_reducible refine zst (L:=[44,41,31,100]) ?_ ?_); exact rfl)
 unfold Hid
 refine wpList_storeW rfl 59 (.tmp 9) (.tmp 42) rfl b9 rfl [I lc2,I lt,I le,I ln] (rfl) B_b9 rfl (by kernel_rfl) rfl (fun w5_ M5=>?_)
 replace B_b5:=zwl M5 B_b5 D_b5_b9
 replace B_b7:=zwl M5 B_b7 D_b7_b9
 replace B_b9:=zwb M5
 replace H:=Lib.hid (M5.out.rdM H.out N_b9.out)
 replace EW:=zwe M5 EW O_b9
 have e1:=cell_of (i:=1) B_b5.out rfl
 have l1:=cell_of (i:=1) B_b9.out rfl
 have m6:=cell_of (i:=6) B_b7.out rfl
 have m5:=cell_of (i:=5) B_b7.out rfl
 have m16:=cell_of (i:=16) B_b7.out rfl
 obtain ⟨XX,hXX⟩ : ∃ x : Bool,(LB && decide (qt ≤ lt)) = x:=⟨_,rfl⟩
 by_cases hold : LB = true ∧ qt ≤ lt
 case pos =>
  obtain ⟨rfl,hle⟩:=hold
  go_wp2
  go_ret
  exact ⟨rfl,EW.out⟩
 clear hXX XX
 have hbz0 : mk.server.busy = true → True:=fun _=>trivial
 clear hbz0
 have hsel : LB = false ∨ (LB = true ∧ ¬ qt ≤ lt):=by
  cases LB
  ·exact .inl rfl
  ·exact .inr ⟨rfl,fun h=>hold ⟨rfl,h⟩⟩
 have HOLD:=Lib.hid hold
 clear hold
 by_cases hbz : mk.server.busy = true
 case pos =>
  rcases hsel with rfl | ⟨rfl,hns⟩
  ·go_wp2
   go_ret
   exact ⟨rfl,EW.out⟩
  ·go_wp2
   go_ret
   exact ⟨rfl,EW.out⟩
 replace hbz : mk.server.busy = false:=by simpa using hbz
 by_cases hlx : 0 < mk.server.box.length
 case pos =>
  have hli : (0 : Int) < (mk.server.box.length : Int):=by omega
  rcases hsel with rfl | ⟨rfl,hns⟩
  ·go_wp2
   go_ret
   exact ⟨rfl,EW.out⟩
  ·go_wp2
   go_ret
   exact ⟨rfl,EW.out⟩
 have hli : ¬ (0 : Int) < (mk.server.box.length : Int):=by omega
 by_cases hup : mk.up = true
 case neg =>
  replace hup : mk.up = false:=by simpa using hup
  rcases hsel with rfl | ⟨rfl,hns⟩
  ·go_wp2
   go_ret
   exact ⟨rfl,EW.out⟩
  ·go_wp2
   go_ret
   exact ⟨rfl,EW.out⟩
 obtain ⟨nv,hcm,hsv⟩:=does_take (q:=⟨qc,qt,⟨qk,qa,qo,qn⟩⟩) (v:=mk.server) (s:=mk.store) HWQ.out (by simp only []; rw [HL.out]; exact HOLD.out) hbz (List.eq_nil_of_length_eq_zero (by omega))
 have hrt:=up_right HRL.out steps HMK.out hup hbz
 have hsyn:=sy_come SY0.out (b:=reqB ⟨qc,qt,⟨qk,qa,qo,qn⟩⟩) (Nat.le_of_ble_eq_true rfl)
 rw [hcm] at hsyn
 have SY1:=Lib.hid hsyn
 have HCM:=Lib.hid hcm
 have HRT:=Lib.hid hrt
 have HCR:=Lib.hid (wrongRq_parts HWQ.out).2
 have HOK:=Lib.hid ((right_iff _).1 hrt).2.2.2
 have HPM:=Lib.hid (plan_model hrt HCR.out)
 have HPLN:=Lib.hid (plan_len (ofCells mk.store.cells (mk.store.cells.getD 0 0).toNat) ⟨qk,qa,qo,qn⟩)
 obtain ⟨PL,hPL⟩ : ∃ x,planCl (ofCells mk.store.cells (mk.store.cells.getD 0 0).toNat) ⟨qk,qa,qo,qn⟩ = x:=⟨_,rfl⟩
 obtain ⟨⟨L2,de,dn⟩,hD⟩ : ∃ x,doCl (ofCells mk.store.cells (mk.store.cells.getD 0 0).toNat) ⟨qk,qa,qo,qn⟩ = x:=⟨_,rfl⟩
 replace hsv : serveM mk.store nv = (mk.store,busyV mk.server ⟨qc,qt,⟨qk,qa,qo,qn⟩⟩ (planCl (ofCells mk.store.cells (mk.store.cells.getD 0 0).toNat) ⟨qk,qa,qo,qn⟩) (doCl (ofCells mk.store.cells (mk.store.cells.getD 0 0).toNat) ⟨qk,qa,qo,qn⟩).2,[],0):=hsv
 rw [hPL,hD] at hsv
 unfold Hid at HPM HPLN
 rw [hPL,hD] at HPM
 rw [hPL] at HPLN
 replace HPM:=Lib.hid HPM
 replace HPLN:=Lib.hid HPLN
 have HSV:=Lib.hid hsv
 have HD:=Lib.hid hD
 clear hcm hsv hrt hsyn hPL hD
 go_upto_region 7 with fail
 go_cut [68] (fun c wc=>c = .bool false ∧ w5_ = wc)
 case first =>
  rcases hsel with rfl | ⟨rfl,hns⟩
  ·go_wp2_with fail
   go_meet
   case rel=>exact ⟨rfl,rfl⟩
  ·go_wp2_with fail
   go_meet
   case rel=>exact ⟨rfl,rfl⟩
 case rest =>
  obtain ⟨rfl,rfl⟩:=hcut
  clear hsel hli hbz hlx hup e1 l1 m6 m5 m16
  go_upto_region 9 with fail
  have f2:=cell_of (i:=2) B_b5.out rfl
  have f3:=cell_of (i:=3) B_b5.out rfl
  have f4:=cell_of (i:=4) B_b5.out rfl
  have f5:=cell_of (i:=5) B_b5.out rfl
  have m0:=cell_of (i:=0) B_b7.out rfl
  go_wp2_with fail
  refine wp_region_mono_tail 12 [none,none,none,some (.inr (fun (r : Value) (wx : World)=>Has w5_.heap.size wx r (ofCells mk.store.cells (mk.store.cells.getD 0 0).toNat))),none,none,some (.inr (fun (r : Value) (wx : World)=>∃ u,r = .tuple #[u,.agg #[I de,I dn]] ∧ Has w5_.heap.size wx u L2)),some (.inr (fun (r : Value) (wx : World)=>∃ u,r = .tuple #[u,.agg #[I de,I dn]] ∧ Has w5_.heap.size wx u L2)),some (.inr (fun (r : Value) (wx : World)=>Has w5_.heap.size wx r L2)),some (.inl (.agg #[I de,I dn])),some (.inr (BoxC w5_.heap.size 39 #[I 0,I 0])),none] (by kernel_rfl) (by kernel_rfl) ?_ ?_
  ·exact ⟨trivial,trivial,trivial,monoHas _ _,trivial,trivial,fun _ _ _ he ⟨u,e,h⟩=>⟨u,e,h.ext he⟩,fun _ _ _ he ⟨u,e,h⟩=>⟨u,e,h.ext he⟩,monoHas _ _,trivial,monoBoxC _ _ _,trivial,trivial⟩
  iterate 2 (refine wpM_p (fun K hK=>?_); go_simp; first | refine hK _ ?_ | refine ⟨(fun h=>by cases h),hK _ ?_⟩; clear hK K)
  refine wpM_q (.slice ca mk.store.cells.length cc) rfl (fun w' hw'=>by have q0:=hw'.cell m0; go_simp) ?_
  refine wpM_norm (fun K hK=>?_); go_simp; refine hK _ ?_; clear hK K
  refine wpM_l _ rfl (fun w' hw' hk=>?_) (fun v73=>?_)
  ·have hg : Gives Tryz.prog 21 #[.slice ca mk.store.cells.length cc] w' (fun (r : Value) (wx : World)=>Has w5_.heap.size wx r (ofCells mk.store.cells (mk.store.cells.getD 0 0).toNat)):=(refOf_has _ mk.store.cells w' (H.out.cells.ext hw').out HRT.out).mono fun e wx ⟨r,he,hx,h⟩=>⟨r,he,hx,h.low hw'.size⟩
   clear hk
   unfold makes
   go_simp
   exact ⟨Ext.refl _,hg⟩
  refine wpM_norm (fun K hK=>?_); go_simp; refine hK _ ?_; clear hK K
  iterate 1 (refine wpM_p (fun K hK=>?_); go_simp; first | refine hK _ ?_ | refine ⟨(fun h=>by cases h),hK _ ?_⟩; clear hK K)
  refine wpM_q (.agg #[I qk,I qa,I qo,I qn]) rfl (fun w' hw'=>by have q0:=hw'.cell f2; have q1:=hw'.cell f3; have q2:=hw'.cell f4; have q3:=hw'.cell f5; go_simp) ?_
  refine wpM_norm (fun K hK=>?_); go_simp; refine hK _ ?_; clear hK K
  refine wpM_l _ rfl (fun w' hw' hk=>?_) (fun v76=>?_)
  ·have h73 : Has w5_.heap.size w' v73 (ofCells mk.store.cells (mk.store.cells.getD 0 0).toNat):=hk 73 (by decide)
   have hg : Gives Tryz.prog 20 #[v73,.agg #[I qk,I qa,I qo,I qn]] w' (fun (r : Value) (wx : World)=>∃ u,r = .tuple #[u,.agg #[I de,I dn]] ∧ Has w5_.heap.size wx u L2):=(rDo_any v73 _ qk qa qo qn w' h73.writes HOK.out HCR.out).mono fun e wx ⟨⟨u,he,_,hu⟩,hx⟩=>by
    have hu2:=hu w5_.heap.size hw'.size h73
    rw [HD.out] at he hu2
    exact ⟨_,he,hx,u,rfl,hu2⟩
   clear hk
   unfold makes
   go_simp
   exact ⟨Ext.refl _,hg⟩
  refine wpM_norm (fun K hK=>?_); go_simp; refine hK _ ?_; clear hK K
  refine wpM_l _ rfl (fun w' hw' hk=>?_) (fun v69=>?_)
  ·have h76 : (fun (r : Value) (wx : World)=>∃ u,r = .tuple #[u,.agg #[I de,I dn]] ∧ Has w5_.heap.size wx u L2) v76 w':=hk 76 (by decide)
   clear hk
   unfold makes
   go_simp
   exact ⟨Ext.refl _,h76⟩
  refine wpM_norm (fun K hK=>?_); go_simp; refine hK _ ?_; clear hK K
  refine wpM_l _ rfl (fun w' hw' hk=>?_) (fun v77=>?_)
  ·obtain ⟨u,rfl,h7⟩ : (fun (r : Value) (wx : World)=>∃ u,r = .tuple #[u,.agg #[I de,I dn]] ∧ Has w5_.heap.size wx u L2) v69 w':=hk 69 (by decide)
   clear hk
   unfold makes
   go_simp
   exact ⟨Ext.refl _,h7⟩
  refine wpM_norm (fun K hK=>?_); go_simp; refine hK _ ?_; clear hK K
  refine wpM_x _ rfl (fun w' hw' hk=>?_) ?_
  ·obtain ⟨u,rfl,h7⟩ : (fun (r : Value) (wx : World)=>∃ u,r = .tuple #[u,.agg #[I de,I dn]] ∧ Has w5_.heap.size wx u L2) v69 w':=hk 69 (by decide)
   clear hk
   unfold makes
   go_simp
   exact ⟨Ext.refl _,rfl⟩
  refine wpM_norm (fun K hK=>?_); go_simp; refine hK _ ?_; clear hK K
  refine wpM_l _ rfl (fun w' hw' hk=>?_) (fun v12=>?_)
  ·clear hk
   unfold makes
   go_simp
   exact ⟨(Ext.refl _).alloc _,boxC_new hw'.size⟩
  refine wpM_norm (fun K hK=>?_); go_simp; refine hK _ ?_; clear hK K
  iterate 1 (refine wpM_p (fun K hK=>?_); go_simp; first | refine hK _ ?_ | refine ⟨(fun h=>by cases h),hK _ ?_⟩; clear hK K)
  refine wpM_nil ?_
  intro w5 ex5 hF
  have hnow : Has w5_.heap.size w5 v77 L2:=hF 77
  obtain ⟨b12,rfl,hb12,hB12⟩ : BoxC w5_.heap.size 39 #[I 0,I 0] v12 w5:=hF 12
  clear hF
  obtain ⟨na,nc,rfl⟩:=row_slice hnow.writes
  have hnr:=hnow.rd_ne hB12 (by decide)
  have SZ0 : Hid (b9 < w5_.heap.size ∧ b7 < w5_.heap.size ∧ b5 < w5_.heap.size):=⟨(Array.getElem?_eq_some_iff.1 B_b9.out).1,(Array.getElem?_eq_some_iff.1 B_b7.out).1,(Array.getElem?_eq_some_iff.1 B_b5.out).1⟩
  obtain ⟨C0,HC0⟩ : ∃ X : Nat → Prop,Hid (∀ k,X k ↔ ((B111 k ∧ k < w5_.heap.size) ∨ (w5_.heap.size ≤ k ∧ k ≠ b12))):=⟨_,fun _=>Iff.rfl⟩
  replace H:=Lib.hid (H.out.widen (B:=C0) fun k hk h=>(HC0.out k).2 (.inl ⟨h,hk⟩))
  have NOW:=Lib.hid (hnr.widen (B:=C0) fun k _ h=>(HC0.out k).2 (.inr h))
  clear hnow hnr f2 f3 f4 f5 m0
  replace N_b5 : Hid (¬ C0 b5):=fun h=>by rcases (HC0.out _).1 h with q | q; exact N_b5.out q.1; exact absurd q.1 (by have q2:=SZ0.out; omega)
  have D_b5_b12 : Hid (b5 < b12):=by unfold Hid; have q:=SZ0.out; omega
  replace N_b7 : Hid (¬ C0 b7):=fun h=>by rcases (HC0.out _).1 h with q | q; exact N_b7.out q.1; exact absurd q.1 (by have q2:=SZ0.out; omega)
  have D_b7_b12 : Hid (b7 < b12):=by unfold Hid; have q:=SZ0.out; omega
  replace N_b9 : Hid (¬ C0 b9):=fun h=>by rcases (HC0.out _).1 h with q | q; exact N_b9.out q.1; exact absurd q.1 (by have q2:=SZ0.out; omega)
  have D_b9_b12 : Hid (b9 < b12):=by unfold Hid; have q:=SZ0.out; omega
  have N_b12 : Hid (¬ C0 b12):=fun h=>by rcases (HC0.out _).1 h with q | q; exact absurd q.2 (by omega); exact q.2 rfl
  have O_b12 : Hid (w.heap.size ≤ b12):=by unfold Hid; have q:=O_b5.out; have q2:=D_b5_b12.out; omega
  replace B_b5:=zbx B_b5 ex5
  replace B_b7:=zbx B_b7 ex5
  replace B_b9:=zbx B_b9 ex5
  replace H:=Lib.hid (H.out.ext ex5)
  replace EW:=Lib.hid (EW.out.trans ex5)
  have B_b12:=Lib.hid hB12
  clear hB12 hb12 ex5 SZ0
  refine zss ?_
  unfold Hid
  refine wpList_storeW rfl 39 (.tmp 12) (.tmp 78) rfl b12 rfl [I de,I dn] (rfl) B_b12 rfl (by kernel_rfl) rfl (fun w6_ M6=>?_)
  replace B_b5:=zwl M6 B_b5 D_b5_b12
  replace B_b7:=zwl M6 B_b7 D_b7_b12
  replace B_b9:=zwl M6 B_b9 D_b9_b12
  replace B_b12:=zwb M6
  replace H:=Lib.hid (M6.out.rdM H.out N_b12.out)
  replace NOW:=zwr M6 NOW N_b12
  replace EW:=zwe M6 EW O_b12
  go_upto_region 10 with fail
  refine code_norm (fun K hK=>?_)
  go_simp
  refine hK _ ?_
  clear hK K
  have SZK : Hid (b12 < w6_.heap.size ∧ b9 < w6_.heap.size ∧ b7 < w6_.heap.size ∧ b5 < w6_.heap.size):=⟨(Array.getElem?_eq_some_iff.1 B_b12.out).1,(Array.getElem?_eq_some_iff.1 B_b9.out).1,(Array.getElem?_eq_some_iff.1 B_b7.out).1,(Array.getElem?_eq_some_iff.1 B_b5.out).1⟩
  go_cut [13,14] (fun p4 e6 wc=>∃ (b11 : Nat) (xa1 : Option Addr) (xc1 : Nat) (la1 : Option Addr) (lc1 : Nat),p4 = .pointer (some ⟨b11,0,none⟩) ∧ e6 = I 0 ∧ w6_.heap.size ≤ b11 ∧ wc.heap[b11]? = some (.cells #[I nv.gen,.slice xa1 nv.box.length xc1,.bool nv.busy,I nv.now.client,I nv.now.token,I nv.now.call.kind,I nv.now.call.name,I nv.now.call.other,I nv.now.call.n,.slice la1 nv.plan.length lc1,I nv.says.err,I nv.says.n] 41 (0,0)) ∧ Ext w6_ wc ∧ Rd (fun k=>w6_.heap.size ≤ k ∧ k ≠ b11) (fun w=>elSv w [I nv.gen,.slice xa1 nv.box.length xc1,.bool nv.busy,I nv.now.client,I nv.now.token,I nv.now.call.kind,I nv.now.call.name,I nv.now.call.other,I nv.now.call.n,.slice la1 nv.plan.length lc1,I nv.says.err,I nv.says.n] nv) wc)
  case first =>
   go_wp2_with fail
   refine held_drew (S:=fun w'=>w'.heap[b7]? = some (.cells #[.slice ca mk.store.cells.length cc,.slice ua mk.store.undo.length uc,.slice aa mk.store.answers.length ac,.slice pa mk.store.past.length pc,I mk.server.gen,.slice xa mk.server.box.length xc,.bool mk.server.busy,I mk.server.now.client,I mk.server.now.token,I mk.server.now.call.kind,I mk.server.now.call.name,I mk.server.now.call.other,I mk.server.now.call.n,.slice la mk.server.plan.length lc,I mk.server.says.err,I mk.server.says.n,.bool mk.up,I mk.pause,I mk.falls,.slice ka mk.clients.length kc] 44 (0,0)) ∧ w'.heap[b5]? = some (.cells #[I qc,I qt,I qk,I qa,I qo,I qn] 36 (0,0))) (by kernel_rfl) (fun wd ed _=>?_)
   replace B_b5:=zbx B_b5 ed
   replace B_b7:=zbx B_b7 ed
   replace B_b9:=zbx B_b9 ed
   replace B_b12:=zbx B_b12 ed
   replace H:=Lib.hid (H.out.ext ed)
   replace NOW:=zrx NOW ed
   replace EW:=Lib.hid (EW.out.trans ed)
   have HSS : Hid (wd.heap[b7]? = some (.cells #[.slice ca mk.store.cells.length cc,.slice ua mk.store.undo.length uc,.slice aa mk.store.answers.length ac,.slice pa mk.store.past.length pc,I mk.server.gen,.slice xa mk.server.box.length xc,.bool mk.server.busy,I mk.server.now.client,I mk.server.now.token,I mk.server.now.call.kind,I mk.server.now.call.name,I mk.server.now.call.other,I mk.server.now.call.n,.slice la mk.server.plan.length lc,I mk.server.says.err,I mk.server.says.n,.bool mk.up,I mk.pause,I mk.falls,.slice ka mk.clients.length kc] 44 (0,0)) ∧ wd.heap[b5]? = some (.cells #[I qc,I qt,I qk,I qa,I qo,I qn] 36 (0,0))):=⟨B_b7.out,B_b5.out⟩
   have EXK : Hid (Ext w6_ wd):=ed
   clear ed
   refine held_pure 0 rfl (by kernel_rfl) (by kernel_rfl) (by kernel_rfl) (fun _ _ _ _ h=>h) rfl HSS.out (fun K hK=>?_); go_simp; refine hK _ ?_; clear hK K
   refine held_take 1 rfl (by kernel_rfl) (by kernel_rfl) (by kernel_rfl) (fun _ _ _ _ h=>h) (.agg #[I mk.server.gen,.slice xa mk.server.box.length xc,.bool mk.server.busy,I mk.server.now.client,I mk.server.now.token,I mk.server.now.call.kind,I mk.server.now.call.name,I mk.server.now.call.other,I mk.server.now.call.n,.slice la mk.server.plan.length lc,I mk.server.says.err,I mk.server.says.n]) rfl (fun w' hS=>run_loadM 41 (.tmp 80) rfl b7 4 rfl hS.1 [I mk.server.gen,.slice xa mk.server.box.length xc,.bool mk.server.busy,I mk.server.now.client,I mk.server.now.token,I mk.server.now.call.kind,I mk.server.now.call.name,I mk.server.now.call.other,I mk.server.now.call.n,.slice la mk.server.plan.length lc,I mk.server.says.err,I mk.server.says.n] rfl Tryz.underlying41 (by kernel_rfl)) HSS.out ?_
   refine held_norm (fun K hK=>?_); go_simp; refine hK _ ?_; clear hK K
   refine held_loadW 2 rfl (by kernel_rfl) (by kernel_rfl) (by kernel_rfl) (fun _ _ _ _ h=>h) rfl 36 (.tmp 5) rfl b5 rfl (fun w' hS=>hS.2) Tryz.underlying36 (by kernel_rfl) HSS ?_
   refine held_norm (fun K hK=>?_); go_simp; refine hK _ ?_; clear hK K
   refine held_two 3 8 (by kernel_rfl) ?_ ?_
   ·refine wpOp_call rfl rfl 18 #[.agg #[I qc,I qt,I qk,I qa,I qo,I qn]] (by go_simp) ?_
    refine (RequestBytes_any qc qt qk qa qo qn wd).to fun qv wq eq hq=>?_
    obtain ⟨qva,qvc,rfl⟩:=row_slice hq
    have HQV:=Lib.hid hq
    clear hq
    replace B_b5:=zbx B_b5 eq
    replace B_b7:=zbx B_b7 eq
    replace B_b9:=zbx B_b9 eq
    replace B_b12:=zbx B_b12 eq
    replace H:=Lib.hid (H.out.ext eq)
    replace NOW:=zrx NOW eq
    replace EW:=Lib.hid (EW.out.trans eq)
    replace EXK:=Lib.hid (EXK.out.trans eq)
    clear HSS
    refine ⟨_,rfl,⟨B_b7.out,B_b5.out⟩,?_⟩
    have HSS : Hid (wq.heap[b7]? = some (.cells #[.slice ca mk.store.cells.length cc,.slice ua mk.store.undo.length uc,.slice aa mk.store.answers.length ac,.slice pa mk.store.past.length pc,I mk.server.gen,.slice xa mk.server.box.length xc,.bool mk.server.busy,I mk.server.now.client,I mk.server.now.token,I mk.server.now.call.kind,I mk.server.now.call.name,I mk.server.now.call.other,I mk.server.now.call.n,.slice la mk.server.plan.length lc,I mk.server.says.err,I mk.server.says.n,.bool mk.up,I mk.pause,I mk.falls,.slice ka mk.clients.length kc] 44 (0,0)) ∧ wq.heap[b5]? = some (.cells #[I qc,I qt,I qk,I qa,I qo,I qn] 36 (0,0))):=⟨B_b7.out,B_b5.out⟩
    refine held_norm (fun K hK=>?_); go_simp; refine hK _ ?_; clear hK K
    refine held_two 4 8 (by kernel_rfl) ?_ ?_
    ·refine wpOp_call rfl rfl 8 #[.agg #[I mk.server.gen,.slice xa mk.server.box.length xc,.bool mk.server.busy,I mk.server.now.client,I mk.server.now.token,I mk.server.now.call.kind,I mk.server.now.call.name,I mk.server.now.call.other,I mk.server.now.call.n,.slice la mk.server.plan.length lc,I mk.server.says.err,I mk.server.says.n],.slice qva (reqB ⟨qc,qt,⟨qk,qa,qo,qn⟩⟩).length qvc] (by go_simp) ?_
     refine (Come_keeps mk.server _ _ _ (reqB ⟨qc,qt,⟨qk,qa,qo,qn⟩⟩) wq H.out.box.out H.out.plan.out HQV.out (small_sy SY0.out (by decide)).2 (Nat.le_of_ble_eq_true rfl)).to fun r wg eg hr=>?_
     rw [HCM.out] at hr
     obtain ⟨cs,rfl,hcs⟩:=rd_tupE hr
     obtain ⟨box1,plan1,rfl,r1,r2⟩:=rd_sv hcs
     obtain ⟨xa1,xc1,rfl⟩:=rowOf_slice r1.out
     obtain ⟨la1,lc1,rfl⟩:=row_slice r2.out
     have RC : Hid (Rd (fun k=>w6_.heap.size ≤ k) (fun w=>elSv w [I nv.gen,.slice xa1 nv.box.length xc1,.bool nv.busy,I nv.now.client,I nv.now.token,I nv.now.call.kind,I nv.now.call.name,I nv.now.call.other,I nv.now.call.n,.slice la1 nv.plan.length lc1,I nv.says.err,I nv.says.n] nv) wg):=hcs.widen fun k _ h=>by rcases h with h | h; exact h.elim; have q:=EXK.out.size; omega
     clear hr hcs r1 r2
     replace B_b5:=zbx B_b5 eg
     replace B_b7:=zbx B_b7 eg
     replace B_b9:=zbx B_b9 eg
     replace B_b12:=zbx B_b12 eg
     replace H:=Lib.hid (H.out.ext eg)
     replace NOW:=zrx NOW eg
     replace EW:=Lib.hid (EW.out.trans eg)
     replace EXK:=Lib.hid (EXK.out.trans eg)
     clear HSS
     refine ⟨_,rfl,⟨B_b7.out,B_b5.out⟩,?_⟩
     have HSS : Hid (wg.heap[b7]? = some (.cells #[.slice ca mk.store.cells.length cc,.slice ua mk.store.undo.length uc,.slice aa mk.store.answers.length ac,.slice pa mk.store.past.length pc,I mk.server.gen,.slice xa mk.server.box.length xc,.bool mk.server.busy,I mk.server.now.client,I mk.server.now.token,I mk.server.now.call.kind,I mk.server.now.call.name,I mk.server.now.call.other,I mk.server.now.call.n,.slice la mk.server.plan.length lc,I mk.server.says.err,I mk.server.says.n,.bool mk.up,I mk.pause,I mk.falls,.slice ka mk.clients.length kc] 44 (0,0)) ∧ wg.heap[b5]? = some (.cells #[I qc,I qt,I qk,I qa,I qo,I qn] 36 (0,0))):=⟨B_b7.out,B_b5.out⟩
     refine held_norm (fun K hK=>?_); go_simp; refine hK _ ?_; clear hK K
     refine held_pure 5 rfl (by kernel_rfl) (by kernel_rfl) (by kernel_rfl) (fun _ _ _ _ h=>h) rfl HSS.out (fun K hK=>?_); go_simp; refine hK _ ?_; clear hK K
     refine held_pure 6 rfl (by kernel_rfl) (by kernel_rfl) (by kernel_rfl) (fun _ _ _ _ h=>h) rfl HSS.out (fun K hK=>?_); go_simp; refine hK _ ?_; clear hK K
     refine held_pure 7 rfl (by kernel_rfl) (by kernel_rfl) (by kernel_rfl) (fun _ _ _ _ h=>h) rfl HSS.out (fun K hK=>?_); go_simp; refine hK _ ?_; clear hK K
     refine held_all 8 (by kernel_rfl) ?_
     refine wpOp_alloc rfl rfl 41 #[I 0,.slice none 0 0,.bool false,I 0,I 0,I 0,I 0,I 0,I 0,.slice none 0 0,I 0,I 0] (by kernel_rfl) (fun b11 wb MB=>⟨⟨MB.out.old B_b7.out,MB.out.old B_b5.out⟩,?_⟩)
     have HB11 : Hid (w6_.heap.size ≤ b11):=by unfold Hid; have q:=MB.out.at_; have q3:=EXK.out.size; omega
     have D_b7_b11:=zld B_b7 MB
     have D_b5_b11:=zld B_b5 MB
     replace RC:=Lib.hid ((RC.out.widen (B:=fun k=>w6_.heap.size ≤ k ∧ k ≠ b11) (fun k hk h=>⟨h,by have q:=MB.out.at_; omega⟩)).ext MB.out.ext)
     replace H:=Lib.hid (H.out.ext MB.out.ext)
     replace NOW:=zme MB NOW
     replace B_b7:=zmo MB B_b7
     replace B_b5:=zmo MB B_b5
     have B_b11:=zmb MB
     replace EXK:=zet EXK MB
     replace EW:=zet EW MB
     clear HSS
     have HSS : Hid (wb.heap[b7]? = some (.cells #[.slice ca mk.store.cells.length cc,.slice ua mk.store.undo.length uc,.slice aa mk.store.answers.length ac,.slice pa mk.store.past.length pc,I mk.server.gen,.slice xa mk.server.box.length xc,.bool mk.server.busy,I mk.server.now.client,I mk.server.now.token,I mk.server.now.call.kind,I mk.server.now.call.name,I mk.server.now.call.other,I mk.server.now.call.n,.slice la mk.server.plan.length lc,I mk.server.says.err,I mk.server.says.n,.bool mk.up,I mk.pause,I mk.falls,.slice ka mk.clients.length kc] 44 (0,0)) ∧ wb.heap[b5]? = some (.cells #[I qc,I qt,I qk,I qa,I qo,I qn] 36 (0,0))):=⟨B_b7.out,B_b5.out⟩
     refine held_norm (fun K hK=>?_); go_simp; refine hK _ ?_; clear hK K
     refine held_storeW 9 (by kernel_rfl) rfl rfl 41 (.tmp 13) (.tmp 85) rfl b11 rfl [I nv.gen,.slice xa1 nv.box.length xc1,.bool nv.busy,I nv.now.client,I nv.now.token,I nv.now.call.kind,I nv.now.call.name,I nv.now.call.other,I nv.now.call.n,.slice la1 nv.plan.length lc1,I nv.says.err,I nv.says.n] rfl B_b11 rfl (by kernel_rfl) rfl (fun wy MY=>⟨⟨MY.out.old B_b7.out (Nat.ne_of_lt D_b7_b11.out),MY.out.old B_b5.out (Nat.ne_of_lt D_b5_b11.out)⟩,?_⟩)
     replace RC:=Lib.hid (MY.out.rd RC.out (fun h=>h.2 rfl))
     replace B_b7:=zwl MY B_b7 D_b7_b11
     replace B_b5:=zwl MY B_b5 D_b5_b11
     replace B_b11:=zwb MY
     replace EXK:=Lib.hid (MY.out.ext EXK.out HB11.out)
     clear HSS
     have HSS : Hid (wy.heap[b7]? = some (.cells #[.slice ca mk.store.cells.length cc,.slice ua mk.store.undo.length uc,.slice aa mk.store.answers.length ac,.slice pa mk.store.past.length pc,I mk.server.gen,.slice xa mk.server.box.length xc,.bool mk.server.busy,I mk.server.now.client,I mk.server.now.token,I mk.server.now.call.kind,I mk.server.now.call.name,I mk.server.now.call.other,I mk.server.now.call.n,.slice la mk.server.plan.length lc,I mk.server.says.err,I mk.server.says.n,.bool mk.up,I mk.pause,I mk.falls,.slice ka mk.clients.length kc] 44 (0,0)) ∧ wy.heap[b5]? = some (.cells #[I qc,I qt,I qk,I qa,I qo,I qn] 36 (0,0))):=⟨B_b7.out,B_b5.out⟩
     refine held_norm (fun K hK=>?_); go_simp; refine hK _ ?_; clear hK K
     refine held_value 10 (by kernel_rfl) rfl rfl _ rfl HSS.out ?_
     refine held_norm (fun K hK=>?_); go_simp; refine hK _ ?_; clear hK K
     refine wpAnyH_done (by kernel_rfl) ?_ _
     clear HSS
     go_wp2_with fail
     go_meet
     case rel=>exact ⟨b11,_,_,_,_,rfl,rfl,HB11.out,B_b11.out,EXK.out,RC.out⟩
    ·refine wpOp_alloc rfl rfl 41 #[I 0,.slice none 0 0,.bool false,I 0,I 0,I 0,I 0,I 0,I 0,.slice none 0 0,I 0,I 0] (by kernel_rfl) (fun b11 wb MB=>⟨⟨MB.out.old B_b7.out,MB.out.old B_b5.out⟩,?_⟩)
     have HB11 : Hid (w6_.heap.size ≤ b11):=by unfold Hid; have q:=MB.out.at_; have q3:=EXK.out.size; omega
     have D_b7_b11:=zld B_b7 MB
     have D_b5_b11:=zld B_b5 MB
     replace H:=Lib.hid (H.out.ext MB.out.ext)
     replace NOW:=zme MB NOW
     replace B_b7:=zmo MB B_b7
     replace B_b5:=zmo MB B_b5
     have B_b11:=zmb MB
     replace EXK:=zet EXK MB
     replace EW:=zet EW MB
     replace HQV:=Lib.hid (HQV.out.ext MB.out.ext)
     clear HSS
     have HSS : Hid (wb.heap[b7]? = some (.cells #[.slice ca mk.store.cells.length cc,.slice ua mk.store.undo.length uc,.slice aa mk.store.answers.length ac,.slice pa mk.store.past.length pc,I mk.server.gen,.slice xa mk.server.box.length xc,.bool mk.server.busy,I mk.server.now.client,I mk.server.now.token,I mk.server.now.call.kind,I mk.server.now.call.name,I mk.server.now.call.other,I mk.server.now.call.n,.slice la mk.server.plan.length lc,I mk.server.says.err,I mk.server.says.n,.bool mk.up,I mk.pause,I mk.falls,.slice ka mk.clients.length kc] 44 (0,0)) ∧ wb.heap[b5]? = some (.cells #[I qc,I qt,I qk,I qa,I qo,I qn] 36 (0,0))):=⟨B_b7.out,B_b5.out⟩
     refine held_norm (fun K hK=>?_); go_simp; refine hK _ ?_; clear hK K
     refine held_all 4 (by kernel_rfl) ?_
     refine wpOp_call rfl rfl 8 #[.agg #[I mk.server.gen,.slice xa mk.server.box.length xc,.bool mk.server.busy,I mk.server.now.client,I mk.server.now.token,I mk.server.now.call.kind,I mk.server.now.call.name,I mk.server.now.call.other,I mk.server.now.call.n,.slice la mk.server.plan.length lc,I mk.server.says.err,I mk.server.says.n],.slice qva (reqB ⟨qc,qt,⟨qk,qa,qo,qn⟩⟩).length qvc] (by go_simp) ?_
     have SZA2 : Hid (b11 < wb.heap.size):=(Array.getElem?_eq_some_iff.1 B_b11.out).1
     refine (Come_keeps mk.server _ _ _ (reqB ⟨qc,qt,⟨qk,qa,qo,qn⟩⟩) wb H.out.box.out H.out.plan.out HQV.out (small_sy SY0.out (by decide)).2 (Nat.le_of_ble_eq_true rfl)).to fun r wg eg hr=>?_
     rw [HCM.out] at hr
     obtain ⟨cs,rfl,hcs⟩:=rd_tupE hr
     obtain ⟨box1,plan1,rfl,r1,r2⟩:=rd_sv hcs
     obtain ⟨xa1,xc1,rfl⟩:=rowOf_slice r1.out
     obtain ⟨la1,lc1,rfl⟩:=row_slice r2.out
     have RC : Hid (Rd (fun k=>w6_.heap.size ≤ k ∧ k ≠ b11) (fun w=>elSv w [I nv.gen,.slice xa1 nv.box.length xc1,.bool nv.busy,I nv.now.client,I nv.now.token,I nv.now.call.kind,I nv.now.call.name,I nv.now.call.other,I nv.now.call.n,.slice la1 nv.plan.length lc1,I nv.says.err,I nv.says.n] nv) wg):=hcs.widen fun k _ h=>⟨by rcases h with h | h; exact h.elim; have q:=EXK.out.size; omega,by rcases h with h | h; exact h.elim; have q:=SZA2.out; omega⟩
     clear hr hcs r1 r2
     replace B_b5:=zbx B_b5 eg
     replace B_b7:=zbx B_b7 eg
     replace B_b11:=zbx B_b11 eg
     replace H:=Lib.hid (H.out.ext eg)
     replace NOW:=zrx NOW eg
     replace EW:=Lib.hid (EW.out.trans eg)
     replace EXK:=Lib.hid (EXK.out.trans eg)
     clear HSS
     refine ⟨_,rfl,⟨B_b7.out,B_b5.out⟩,?_⟩
     have HSS : Hid (wg.heap[b7]? = some (.cells #[.slice ca mk.store.cells.length cc,.slice ua mk.store.undo.length uc,.slice aa mk.store.answers.length ac,.slice pa mk.store.past.length pc,I mk.server.gen,.slice xa mk.server.box.length xc,.bool mk.server.busy,I mk.server.now.client,I mk.server.now.token,I mk.server.now.call.kind,I mk.server.now.call.name,I mk.server.now.call.other,I mk.server.now.call.n,.slice la mk.server.plan.length lc,I mk.server.says.err,I mk.server.says.n,.bool mk.up,I mk.pause,I mk.falls,.slice ka mk.clients.length kc] 44 (0,0)) ∧ wg.heap[b5]? = some (.cells #[I qc,I qt,I qk,I qa,I qo,I qn] 36 (0,0))):=⟨B_b7.out,B_b5.out⟩
     refine held_norm (fun K hK=>?_); go_simp; refine hK _ ?_; clear hK K
     refine held_pure 5 rfl (by kernel_rfl) (by kernel_rfl) (by kernel_rfl) (fun _ _ _ _ h=>h) rfl HSS.out (fun K hK=>?_); go_simp; refine hK _ ?_; clear hK K
     refine held_pure 6 rfl (by kernel_rfl) (by kernel_rfl) (by kernel_rfl) (fun _ _ _ _ h=>h) rfl HSS.out (fun K hK=>?_); go_simp; refine hK _ ?_; clear hK K
     refine held_pure 7 rfl (by kernel_rfl) (by kernel_rfl) (by kernel_rfl) (fun _ _ _ _ h=>h) rfl HSS.out (fun K hK=>?_); go_simp; refine hK _ ?_; clear hK K
     refine held_storeW 9 (by kernel_rfl) rfl rfl 41 (.tmp 13) (.tmp 85) rfl b11 rfl [I nv.gen,.slice xa1 nv.box.length xc1,.bool nv.busy,I nv.now.client,I nv.now.token,I nv.now.call.kind,I nv.now.call.name,I nv.now.call.other,I nv.now.call.n,.slice la1 nv.plan.length lc1,I nv.says.err,I nv.says.n] rfl B_b11 rfl (by kernel_rfl) rfl (fun wy MY=>⟨⟨MY.out.old B_b7.out (Nat.ne_of_lt D_b7_b11.out),MY.out.old B_b5.out (Nat.ne_of_lt D_b5_b11.out)⟩,?_⟩)
     replace RC:=Lib.hid (MY.out.rd RC.out (fun h=>h.2 rfl))
     replace B_b7:=zwl MY B_b7 D_b7_b11
     replace B_b5:=zwl MY B_b5 D_b5_b11
     replace B_b11:=zwb MY
     replace EXK:=Lib.hid (MY.out.ext EXK.out HB11.out)
     clear HSS
     have HSS : Hid (wy.heap[b7]? = some (.cells #[.slice ca mk.store.cells.length cc,.slice ua mk.store.undo.length uc,.slice aa mk.store.answers.length ac,.slice pa mk.store.past.length pc,I mk.server.gen,.slice xa mk.server.box.length xc,.bool mk.server.busy,I mk.server.now.client,I mk.server.now.token,I mk.server.now.call.kind,I mk.server.now.call.name,I mk.server.now.call.other,I mk.server.now.call.n,.slice la mk.server.plan.length lc,I mk.server.says.err,I mk.server.says.n,.bool mk.up,I mk.pause,I mk.falls,.slice ka mk.clients.length kc] 44 (0,0)) ∧ wy.heap[b5]? = some (.cells #[I qc,I qt,I qk,I qa,I qo,I qn] 36 (0,0))):=⟨B_b7.out,B_b5.out⟩
     refine held_norm (fun K hK=>?_); go_simp; refine hK _ ?_; clear hK K
     refine held_value 10 (by kernel_rfl) rfl rfl _ rfl HSS.out ?_
     refine held_norm (fun K hK=>?_); go_simp; refine hK _ ?_; clear hK K
     refine wpAnyH_done (by kernel_rfl) ?_ _
     clear HSS
     go_wp2_with fail
     go_meet
     case rel=>exact ⟨b11,_,_,_,_,rfl,rfl,HB11.out,B_b11.out,EXK.out,RC.out⟩
   ·refine wpOp_alloc rfl rfl 41 #[I 0,.slice none 0 0,.bool false,I 0,I 0,I 0,I 0,I 0,I 0,.slice none 0 0,I 0,I 0] (by kernel_rfl) (fun b11 wb MB=>⟨⟨MB.out.old B_b7.out,MB.out.old B_b5.out⟩,?_⟩)
    have HB11 : Hid (w6_.heap.size ≤ b11):=by unfold Hid; have q:=MB.out.at_; have q3:=EXK.out.size; omega
    have D_b7_b11:=zld B_b7 MB
    have D_b5_b11:=zld B_b5 MB
    replace H:=Lib.hid (H.out.ext MB.out.ext)
    replace NOW:=zme MB NOW
    replace B_b7:=zmo MB B_b7
    replace B_b5:=zmo MB B_b5
    have B_b11:=zmb MB
    replace EXK:=zet EXK MB
    replace EW:=zet EW MB
    clear HSS
    have HSS : Hid (wb.heap[b7]? = some (.cells #[.slice ca mk.store.cells.length cc,.slice ua mk.store.undo.length uc,.slice aa mk.store.answers.length ac,.slice pa mk.store.past.length pc,I mk.server.gen,.slice xa mk.server.box.length xc,.bool mk.server.busy,I mk.server.now.client,I mk.server.now.token,I mk.server.now.call.kind,I mk.server.now.call.name,I mk.server.now.call.other,I mk.server.now.call.n,.slice la mk.server.plan.length lc,I mk.server.says.err,I mk.server.says.n,.bool mk.up,I mk.pause,I mk.falls,.slice ka mk.clients.length kc] 44 (0,0)) ∧ wb.heap[b5]? = some (.cells #[I qc,I qt,I qk,I qa,I qo,I qn] 36 (0,0))):=⟨B_b7.out,B_b5.out⟩
    refine held_norm (fun K hK=>?_); go_simp; refine hK _ ?_; clear hK K
    refine held_all 3 (by kernel_rfl) ?_
    refine wpOp_call rfl rfl 18 #[.agg #[I qc,I qt,I qk,I qa,I qo,I qn]] (by go_simp) ?_
    refine (RequestBytes_any qc qt qk qa qo qn wb).to fun qv wq eq hq=>?_
    obtain ⟨qva,qvc,rfl⟩:=row_slice hq
    have HQV:=Lib.hid hq
    clear hq
    replace B_b5:=zbx B_b5 eq
    replace B_b7:=zbx B_b7 eq
    replace B_b11:=zbx B_b11 eq
    replace H:=Lib.hid (H.out.ext eq)
    replace NOW:=zrx NOW eq
    replace EW:=Lib.hid (EW.out.trans eq)
    replace EXK:=Lib.hid (EXK.out.trans eq)
    clear HSS
    refine ⟨_,rfl,⟨B_b7.out,B_b5.out⟩,?_⟩
    have HSS : Hid (wq.heap[b7]? = some (.cells #[.slice ca mk.store.cells.length cc,.slice ua mk.store.undo.length uc,.slice aa mk.store.answers.length ac,.slice pa mk.store.past.length pc,I mk.server.gen,.slice xa mk.server.box.length xc,.bool mk.server.busy,I mk.server.now.client,I mk.server.now.token,I mk.server.now.call.kind,I mk.server.now.call.name,I mk.server.now.call.other,I mk.server.now.call.n,.slice la mk.server.plan.length lc,I mk.server.says.err,I mk.server.says.n,.bool mk.up,I mk.pause,I mk.falls,.slice ka mk.clients.length kc] 44 (0,0)) ∧ wq.heap[b5]? = some (.cells #[I qc,I qt,I qk,I qa,I qo,I qn] 36 (0,0))):=⟨B_b7.out,B_b5.out⟩
    refine held_norm (fun K hK=>?_); go_simp; refine hK _ ?_; clear hK K
    refine held_all 4 (by kernel_rfl) ?_
    refine wpOp_call rfl rfl 8 #[.agg #[I mk.server.gen,.slice xa mk.server.box.length xc,.bool mk.server.busy,I mk.server.now.client,I mk.server.now.token,I mk.server.now.call.kind,I mk.server.now.call.name,I mk.server.now.call.other,I mk.server.now.call.n,.slice la mk.server.plan.length lc,I mk.server.says.err,I mk.server.says.n],.slice qva (reqB ⟨qc,qt,⟨qk,qa,qo,qn⟩⟩).length qvc] (by go_simp) ?_
    have SZA2 : Hid (b11 < wq.heap.size):=(Array.getElem?_eq_some_iff.1 B_b11.out).1
    refine (Come_keeps mk.server _ _ _ (reqB ⟨qc,qt,⟨qk,qa,qo,qn⟩⟩) wq H.out.box.out H.out.plan.out HQV.out (small_sy SY0.out (by decide)).2 (Nat.le_of_ble_eq_true rfl)).to fun r wg eg hr=>?_
    rw [HCM.out] at hr
    obtain ⟨cs,rfl,hcs⟩:=rd_tupE hr
    obtain ⟨box1,plan1,rfl,r1,r2⟩:=rd_sv hcs
    obtain ⟨xa1,xc1,rfl⟩:=rowOf_slice r1.out
    obtain ⟨la1,lc1,rfl⟩:=row_slice r2.out
    have RC : Hid (Rd (fun k=>w6_.heap.size ≤ k ∧ k ≠ b11) (fun w=>elSv w [I nv.gen,.slice xa1 nv.box.length xc1,.bool nv.busy,I nv.now.client,I nv.now.token,I nv.now.call.kind,I nv.now.call.name,I nv.now.call.other,I nv.now.call.n,.slice la1 nv.plan.length lc1,I nv.says.err,I nv.says.n] nv) wg):=hcs.widen fun k _ h=>⟨by rcases h with h | h; exact h.elim; have q:=EXK.out.size; omega,by rcases h with h | h; exact h.elim; have q:=SZA2.out; omega⟩
    clear hr hcs r1 r2
    replace B_b5:=zbx B_b5 eg
    replace B_b7:=zbx B_b7 eg
    replace B_b11:=zbx B_b11 eg
    replace H:=Lib.hid (H.out.ext eg)
    replace NOW:=zrx NOW eg
    replace EW:=Lib.hid (EW.out.trans eg)
    replace EXK:=Lib.hid (EXK.out.trans eg)
    clear HSS
    refine ⟨_,rfl,⟨B_b7.out,B_b5.out⟩,?_⟩
    have HSS : Hid (wg.heap[b7]? = some (.cells #[.slice ca mk.store.cells.length cc,.slice ua mk.store.undo.length uc,.slice aa mk.store.answers.length ac,.slice pa mk.store.past.length pc,I mk.server.gen,.slice xa mk.server.box.length xc,.bool mk.server.busy,I mk.server.now.client,I mk.server.now.token,I mk.server.now.call.kind,I mk.server.now.call.name,I mk.server.now.call.other,I mk.server.now.call.n,.slice la mk.server.plan.length lc,I mk.server.says.err,I mk.server.says.n,.bool mk.up,I mk.pause,I mk.falls,.slice ka mk.clients.length kc] 44 (0,0)) ∧ wg.heap[b5]? = some (.cells #[I qc,I qt,I qk,I qa,I qo,I qn] 36 (0,0))):=⟨B_b7.out,B_b5.out⟩
    refine held_norm (fun K hK=>?_); go_simp; refine hK _ ?_; clear hK K
    refine held_pure 5 rfl (by kernel_rfl) (by kernel_rfl) (by kernel_rfl) (fun _ _ _ _ h=>h) rfl HSS.out (fun K hK=>?_); go_simp; refine hK _ ?_; clear hK K
    refine held_pure 6 rfl (by kernel_rfl) (by kernel_rfl) (by kernel_rfl) (fun _ _ _ _ h=>h) rfl HSS.out (fun K hK=>?_); go_simp; refine hK _ ?_; clear hK K
    refine held_pure 7 rfl (by kernel_rfl) (by kernel_rfl) (by kernel_rfl) (fun _ _ _ _ h=>h) rfl HSS.out (fun K hK=>?_); go_simp; refine hK _ ?_; clear hK K
    refine held_storeW 9 (by kernel_rfl) rfl rfl 41 (.tmp 13) (.tmp 85) rfl b11 rfl [I nv.gen,.slice xa1 nv.box.length xc1,.bool nv.busy,I nv.now.client,I nv.now.token,I nv.now.call.kind,I nv.now.call.name,I nv.now.call.other,I nv.now.call.n,.slice la1 nv.plan.length lc1,I nv.says.err,I nv.says.n] rfl B_b11 rfl (by kernel_rfl) rfl (fun wy MY=>⟨⟨MY.out.old B_b7.out (Nat.ne_of_lt D_b7_b11.out),MY.out.old B_b5.out (Nat.ne_of_lt D_b5_b11.out)⟩,?_⟩)
    replace RC:=Lib.hid (MY.out.rd RC.out (fun h=>h.2 rfl))
    replace B_b7:=zwl MY B_b7 D_b7_b11
    replace B_b5:=zwl MY B_b5 D_b5_b11
    replace B_b11:=zwb MY
    replace EXK:=Lib.hid (MY.out.ext EXK.out HB11.out)
    clear HSS
    have HSS : Hid (wy.heap[b7]? = some (.cells #[.slice ca mk.store.cells.length cc,.slice ua mk.store.undo.length uc,.slice aa mk.store.answers.length ac,.slice pa mk.store.past.length pc,I mk.server.gen,.slice xa mk.server.box.length xc,.bool mk.server.busy,I mk.server.now.client,I mk.server.now.token,I mk.server.now.call.kind,I mk.server.now.call.name,I mk.server.now.call.other,I mk.server.now.call.n,.slice la mk.server.plan.length lc,I mk.server.says.err,I mk.server.says.n,.bool mk.up,I mk.pause,I mk.falls,.slice ka mk.clients.length kc] 44 (0,0)) ∧ wy.heap[b5]? = some (.cells #[I qc,I qt,I qk,I qa,I qo,I qn] 36 (0,0))):=⟨B_b7.out,B_b5.out⟩
    refine held_norm (fun K hK=>?_); go_simp; refine hK _ ?_; clear hK K
    refine held_value 10 (by kernel_rfl) rfl rfl _ rfl HSS.out ?_
    refine held_norm (fun K hK=>?_); go_simp; refine hK _ ?_; clear hK K
    refine wpAnyH_done (by kernel_rfl) ?_ _
    clear HSS
    go_wp2_with fail
    go_meet
    case rel=>exact ⟨b11,_,_,_,_,rfl,rfl,HB11.out,B_b11.out,EXK.out,RC.out⟩
  case rest =>
   rename World=>wc
   obtain ⟨b11,xa1,xc1,la1,lc1,rfl,rfl,hb11,hB11,hex,hR⟩:=hcut
   obtain ⟨C,HC⟩ : ∃ X : Nat → Prop,Hid (∀ k,X k ↔ ((C0 k ∧ k < w6_.heap.size) ∨ (w6_.heap.size ≤ k ∧ k ≠ b11))):=⟨_,fun _=>Iff.rfl⟩
   replace H:=Lib.hid (H.out.widen (B:=C) fun k hk h=>(HC.out k).2 (.inl ⟨h,hk⟩))
   replace NOW:=Lib.hid (NOW.out.widen (B:=C) fun k hk h=>(HC.out k).2 (.inl ⟨h,hk⟩))
   have RC:=Lib.hid (hR.widen (B:=C) fun k _ h=>(HC.out k).2 (.inr h))
   replace N_b5 : Hid (¬ C b5):=fun h=>by rcases (HC.out _).1 h with q | q; exact N_b5.out q.1; exact absurd q.1 (by have q2:=SZK.out; omega)
   replace N_b7 : Hid (¬ C b7):=fun h=>by rcases (HC.out _).1 h with q | q; exact N_b7.out q.1; exact absurd q.1 (by have q2:=SZK.out; omega)
   replace N_b9 : Hid (¬ C b9):=fun h=>by rcases (HC.out _).1 h with q | q; exact N_b9.out q.1; exact absurd q.1 (by have q2:=SZK.out; omega)
   replace N_b12 : Hid (¬ C b12):=fun h=>by rcases (HC.out _).1 h with q | q; exact N_b12.out q.1; exact absurd q.1 (by have q2:=SZK.out; omega)
   have N_b11 : Hid (¬ C b11):=fun h=>by rcases (HC.out _).1 h with q | q; exact absurd q.2 (by omega); exact q.2 rfl
   have D_b5_b11 : Hid (b5 < b11):=by unfold Hid; have q:=SZK.out; omega
   have D_b7_b11 : Hid (b7 < b11):=by unfold Hid; have q:=SZK.out; omega
   have D_b9_b11 : Hid (b9 < b11):=by unfold Hid; have q:=SZK.out; omega
   have D_b12_b11 : Hid (b12 < b11):=by unfold Hid; have q:=SZK.out; omega
   have O_b11 : Hid (w.heap.size ≤ b11):=by unfold Hid; have q:=O_b5.out; have q2:=D_b5_b11.out; omega
   replace B_b5:=zbx B_b5 hex
   replace B_b7:=zbx B_b7 hex
   replace B_b9:=zbx B_b9 hex
   replace B_b12:=zbx B_b12 hex
   replace H:=Lib.hid (H.out.ext hex)
   replace NOW:=zrx NOW hex
   replace EW:=Lib.hid (EW.out.trans hex)
   have B_b11:=Lib.hid hB11
   clear hB11 hex hR hb11 SZK
   go_wp2_with ((with_reducible refine zst (L:=[44,41,31,100]) ?_ ?_); exact rfl)
   unfold Hid
   refine wpList_loadP rfl 31 (.tmp 87) rfl b7 0 rfl B_b7 [.slice ca mk.store.cells.length cc,.slice ua mk.store.undo.length uc,.slice aa mk.store.answers.length ac,.slice pa mk.store.past.length pc] rfl Tryz.underlying31 (by kernel_rfl) (fun v88 H_v88=>?_)
   go_wp2_with ((with_reducible refine zst (L:=[44,41,31,100]) ?_ ?_); exact rfl)
   unfold Hid
   refine wpList_allocB rfl 31 #[.slice none 0 0,.slice none 0 0,.slice none 0 0,.slice none 0 0] (by kernel_rfl) (fun b15 w7_ M7=>?_)
   have D_b5_b15:=zld B_b5 M7
   have D_b7_b15:=zld B_b7 M7
   have D_b9_b15:=zld B_b9 M7
   have D_b12_b15:=zld B_b12 M7
   have D_b11_b15:=zld B_b11 M7
   obtain ⟨C1,HC1⟩ : ∃ X : Nat → Prop,Hid (∀ k,X k ↔ (C k ∧ k ≠ b15)):=⟨_,fun _=>Iff.rfl⟩
   replace H:=Lib.hid (H.out.widen (B:=C1) (fun k hk h=>(HC1.out k).2 ⟨h,by have q2:=M7.out.at_; omega⟩))
   replace NOW:=zmd HC1 M7 NOW
   replace RC:=zmd HC1 M7 RC
   replace N_b5:=znw HC1 N_b5
   replace N_b7:=znw HC1 N_b7
   replace N_b9:=znw HC1 N_b9
   replace N_b12:=znw HC1 N_b12
   replace N_b11:=znw HC1 N_b11
   have N_b15 : Hid (¬ C1 b15):=fun h=>((HC1.out _).1 h).2 rfl
   have I_C1 : Hid (∀ k,C1 k → C k):=fun k h=>((HC1.out k).1 h).1
   have O_b15 : Hid (w.heap.size ≤ b15):=by unfold Hid; have q2:=M7.out.at_; have q3:=EW.out.size; omega
   replace B_b5:=zmo M7 B_b5
   replace B_b7:=zmo M7 B_b7
   replace B_b9:=zmo M7 B_b9
   replace B_b12:=zmo M7 B_b12
   replace B_b11:=zmo M7 B_b11
   have B_b15:=zmb M7
   replace H:=Lib.hid (H.out.ext M7.out.ext)
   replace NOW:=zme M7 NOW
   replace RC:=zme M7 RC
   replace EW:=zet EW M7
   go_wp2_with ((with_reducible refine zst (L:=[44,41,31,100]) ?_ ?_); exact rfl)
   unfold Hid
   refine wpList_storeW rfl 31 (.tmp 15) (.tmp 88) rfl b15 rfl _ (zcv H_v88) B_b15 rfl (by kernel_rfl) rfl (fun w8_ M8=>?_)
   replace B_b5:=zwl M8 B_b5 D_b5_b15
   replace B_b7:=zwl M8 B_b7 D_b7_b15
   replace B_b9:=zwl M8 B_b9 D_b9_b15
   replace B_b12:=zwl M8 B_b12 D_b12_b15
   replace B_b11:=zwl M8 B_b11 D_b11_b15
   replace B_b15:=zwb M8
   replace H:=Lib.hid (M8.out.rdM H.out N_b15.out)
   replace NOW:=zwr M8 NOW N_b15
   replace RC:=zwr M8 RC N_b15
   replace EW:=zwe M8 EW O_b15
   go_wp2_with fail
   go_loopw [89] (fun i wr=>∃ (k : Nat) (E : Nat → Prop) (s : St) (v : Sv) (c u a p box plan : Value),k ≤ PL.length + 1 ∧ i = I k ∧ stD mk.store mk.server nv ⟨qc,qt,⟨qk,qa,qo,qn⟩⟩ PL ⟨de,dn⟩ k = (s,v) ∧ Sy s v (401 + k) ∧ Rd E (fun w=>(elSt w [c,u,a,p] s ∧ elSv w (cells12 v box plan) v) ∧ Writes w (.slice na L2.length nc) L2) wr ∧ ¬ E b15 ∧ ¬ E b11 ∧ wr.heap[b5]? = some (.cells #[I qc,I qt,I qk,I qa,I qo,I qn] 36 (0,0)) ∧ wr.heap[b12]? = some (.cells #[I de,I dn] 39 (0,0)) ∧ wr.heap[b7]? = some (.cells #[.slice ca mk.store.cells.length cc,.slice ua mk.store.undo.length uc,.slice aa mk.store.answers.length ac,.slice pa mk.store.past.length pc,I mk.server.gen,.slice xa mk.server.box.length xc,.bool mk.server.busy,I mk.server.now.client,I mk.server.now.token,I mk.server.now.call.kind,I mk.server.now.call.name,I mk.server.now.call.other,I mk.server.now.call.n,.slice la mk.server.plan.length lc,I mk.server.says.err,I mk.server.says.n,.bool mk.up,I mk.pause,I mk.falls,.slice ka mk.clients.length kc] 44 (0,0)) ∧ wr.heap[b15]? = some (.cells #[c,u,a,p] 31 (0,0)) ∧ wr.heap[b11]? = some (.cells (cells12 v box plan).toArray 41 (0,0)) ∧ Ext w wr) (fun i _=>5 - (intOf i).toNat)
   case atStart=>exact ⟨0,C1,mk.store,nv,_,_,_,_,_,_,Nat.zero_le _,rfl,rfl,SY1.out,((st_rd H.out.cells H.out.undo H.out.answers H.out.past).and RC.out).and NOW.out,N_b15.out,N_b11.out,B_b5.out,B_b12.out,B_b7.out,B_b15.out,B_b11.out,EW.out⟩
   case round =>
    obtain ⟨k,E,s,v,c',u',a',p',box',plan',hk,rfl,hst,sy,hs,n15,n11,hb5,hb12,hb7,hb15,hb11,hex⟩:=hrel
    have SIZ : Hid (b5 < b7 ∧ b7 < b12 ∧ b12 < b11 ∧ b11 < b15):=⟨D_b5_b7.out,D_b7_b12.out,D_b12_b11.out,D_b11_b15.out⟩
    clear B_b5 B_b7 B_b9 B_b11 B_b12 B_b15 H NOW RC N_b5 N_b7 N_b9 N_b11 N_b12 N_b15 EW
    obtain ⟨s1,s2,s3,s4⟩:=st_iff.1 hs.out.1.1
    obtain ⟨hb,hp⟩:=sv_iff.1 hs.out.1.2
    obtain ⟨ca0,cc0,rfl⟩:=row_slice s1
    obtain ⟨ua0,uc0,rfl⟩:=row_slice s2
    obtain ⟨aa0,ac0,rfl⟩:=rowOf_slice s3
    obtain ⟨pa0,pc0,rfl⟩:=rowOf_slice s4
    obtain ⟨xa0,xc0,rfl⟩:=rowOf_slice hb
    obtain ⟨la0,lc0,rfl⟩:=row_slice hp
    have SY:=Lib.hid sy
    have HST:=Lib.hid hst
    have R0:=Lib.hid hs
    have N_b15:=Lib.hid n15
    have N_b11:=Lib.hid n11
    have B_b5:=Lib.hid hb5
    have B_b12:=Lib.hid hb12
    have B_b7:=Lib.hid hb7
    have B_b15 : Hid (wr.heap[b15]? = some (.cells #[.slice ca0 s.cells.length cc0,.slice ua0 s.undo.length uc0,.slice aa0 s.answers.length ac0,.slice pa0 s.past.length pc0] 31 (0,0))):=hb15
    have B_b11 : Hid (wr.heap[b11]? = some (.cells #[I v.gen,.slice xa0 v.box.length xc0,.bool v.busy,I v.now.client,I v.now.token,I v.now.call.kind,I v.now.call.name,I v.now.call.other,I v.now.call.n,.slice la0 v.plan.length lc0,I v.says.err,I v.says.n] 41 (0,0))):=hb11
    have EW:=Lib.hid hex
    have D_b5_b15 : Hid (b5 < b15):=by unfold Hid; have q:=SIZ.out; omega
    have D_b7_b15 : Hid (b7 < b15):=by unfold Hid; have q:=SIZ.out; omega
    have D_b12_b15 : Hid (b12 < b15):=by unfold Hid; have q:=SIZ.out; omega
    have D_b5_b11 : Hid (b5 < b11):=by unfold Hid; have q:=SIZ.out; omega
    have D_b7_b11 : Hid (b7 < b11):=by unfold Hid; have q:=SIZ.out; omega
    clear sy hst hs hb hp n15 n11 hb5 hb12 hb7 hb15 hb11 hex s1 s2 s3 s4
    have hk4 : k < 5:=by have:=HPLN.out; omega
    have hli : (k : Int) < 5:=by omega
    go_wp2_with ((with_reducible refine zst (L:=[44,41,31,100]) ?_ ?_); exact rfl)
    unfold Hid
    clear hli
    refine wpList_loadW rfl 31 (.tmp 15) rfl b15 rfl B_b15 Tryz.underlying31 (by kernel_rfl) (fun v92 H_v92=>?_)
    go_wp2_with ((with_reducible refine zst (L:=[44,41,31,100]) ?_ ?_); exact rfl)
    unfold Hid
    refine wpList_loadW rfl 41 (.tmp 13) rfl b11 rfl B_b11 Tryz.underlying41 (by kernel_rfl) (fun v93 H_v93=>?_)
    go_wp2_with fail
    rw [H_v92.out,H_v93.out]
    clear H_v92 H_v93
    obtain ⟨E1,HE1⟩ : ∃ X : Nat → Prop,Hid (∀ k,X k ↔ (E k ∨ wr.heap.size ≤ k)):=⟨_,fun _=>Iff.rfl⟩
    replace R0:=Lib.hid (R0.out.widen (B:=E1) fun k _ h=>(HE1.out k).2 (.inl h))
    replace N_b11 : Hid (¬ E1 b11):=zgr HE1 N_b11 B_b11
    replace N_b15 : Hid (¬ E1 b15):=zgr HE1 N_b15 B_b15
    obtain ⟨XS,XV,XB,XE,hSV⟩ : ∃ x y z u,serveM s v = (x,y,z,u):=⟨_,_,_,_,rfl⟩
    have HSS_:=Lib.hid hSV
    have hsy:=sy_serve SY.out
    rw [hSV] at hsy
    have SYN:=Lib.hid hsy
    have HSM:=Lib.hid (small_sy SY.out (by omega))
    have hres : XE = 0 ∧ ((k ≤ PL.length ∧ XB = [] ∧ stD mk.store mk.server nv ⟨qc,qt,⟨qk,qa,qo,qn⟩⟩ PL ⟨de,dn⟩ (k + 1) = (XS,XV)) ∨ (XB = ansB ⟨qc,qt,⟨de,dn⟩⟩ ∧ XS = commitSt (wrs mk.store PL) ⟨qc,qt,⟨qk,qa,qo,qn⟩⟩ ⟨de,dn⟩)):=by
     have e1 : (stD mk.store mk.server nv ⟨qc,qt,⟨qk,qa,qo,qn⟩⟩ PL ⟨de,dn⟩ k).1 = s:=by rw [HST.out]
     have e2 : (stD mk.store mk.server nv ⟨qc,qt,⟨qk,qa,qo,qn⟩⟩ PL ⟨de,dn⟩ k).2 = v:=by rw [HST.out]
     by_cases hkl : k ≤ PL.length
     ·have q:=does_step HSV.out hkl
      rw [e1,e2,hSV] at q
      simp only [Prod.mk.injEq] at q
      exact ⟨q.2.2.2,.inl ⟨hkl,q.2.2.1,Prod.ext q.1.symm q.2.1.symm⟩⟩
     ·have hke : k = PL.length + 1:=by omega
      have q:=does_done (s:=mk.store) (v:=mk.server) (nv:=nv) (q:=⟨qc,qt,⟨qk,qa,qo,qn⟩⟩) (P:=PL) (r:=⟨de,dn⟩)
      rw [← hke,e1,e2,hSV] at q
      simp only [Prod.mk.injEq] at q
      exact ⟨q.2.2.2,.inr ⟨q.2.2.1,q.1⟩⟩
    have HRES:=Lib.hid hres
    clear hSV hsy hres
    obtain ⟨x1,x2⟩:=(sv_iff (v:=v)).1 R0.out.out.1.2
    refine (Go_keeps s.cells s.undo s.answers s.past v.gen v.box v.busy v.now.client v.now.token v.now.call.kind v.now.call.name v.now.call.other v.now.call.n v.plan v.says.err v.says.n _ _ _ _ _ _ wr R0.out.out.1.1 x1 x2 HSM.out.1 HSM.out.2 (fun _=>SY.out.wk.cells.weak)).to fun r w9 e9 hr=>?_
    replace hr : Rd (fun k=>False ∨ wr.heap.size ≤ k) (fun w'=>Tup4 (serveM s v).1 (serveM s v).2.1 (serveM s v).2.2.1 (serveM s v).2.2.2 r w') w9:=hr
    have hin : ∀ k,k < w9.heap.size → (False ∨ wr.heap.size ≤ k) → E1 k:=fun k _ h=>(HE1.out k).2 (.inr (by rcases h with h | h; exact h.elim; exact h))
    rw [HSS_.out] at hr
    obtain ⟨cs,ds,bv,rfl,hcs,hds,hbv⟩:=rd_tup4 hr
    obtain ⟨c1,u1,a1,p1,rfl,r1,r2,r3,r4⟩:=rd_st hcs
    obtain ⟨box3,plan3,rfl,r5,r6⟩:=rd_sv hds
    obtain ⟨ca1,cc1,rfl⟩:=row_slice r1.out
    obtain ⟨ua1,uc1,rfl⟩:=row_slice r2.out
    obtain ⟨aa1,ac1,rfl⟩:=rowOf_slice r3.out
    obtain ⟨pa1,pc1,rfl⟩:=rowOf_slice r4.out
    obtain ⟨xa3,xc3,rfl⟩:=rowOf_slice r5.out
    obtain ⟨la3,lc3,rfl⟩:=row_slice r6.out
    obtain ⟨ya1,yc1,rfl⟩:=row_slice hbv.out
    have RQ1:=Lib.hid (((hcs.and hds).and hbv).widen hin)
    obtain ⟨rfl,hcase⟩:=HRES.out
    clear hr hcs hds hbv r1 r2 r3 r4 r5 r6 hin x1 x2 HRES HSS_
    replace B_b5:=zbx B_b5 e9
    replace B_b7:=zbx B_b7 e9
    replace B_b12:=zbx B_b12 e9
    replace B_b11:=zbx B_b11 e9
    replace B_b15:=zbx B_b15 e9
    replace R0:=zrx R0 e9
    replace EW:=Lib.hid (EW.out.trans e9)
    clear e9
    go_wp2_with ((with_reducible refine zst (L:=[44,41,31,100]) ?_ ?_); exact rfl)
    unfold Hid
    refine wpList_allocB rfl 31 #[.slice none 0 0,.slice none 0 0,.slice none 0 0,.slice none 0 0] (by kernel_rfl) (fun b16 w201_ M201=>?_)
    have D_b5_b16:=zld B_b5 M201
    have D_b7_b16:=zld B_b7 M201
    have D_b12_b16:=zld B_b12 M201
    have D_b11_b16:=zld B_b11 M201
    have D_b15_b16:=zld B_b15 M201
    obtain ⟨E11,HE11⟩ : ∃ X : Nat → Prop,Hid (∀ k,X k ↔ (E1 k ∧ k ≠ b16)):=⟨_,fun _=>Iff.rfl⟩
    replace R0:=zmd HE11 M201 R0
    replace RQ1:=zmd HE11 M201 RQ1
    replace N_b11:=znw HE11 N_b11
    replace N_b15:=znw HE11 N_b15
    have N_b16 : Hid (¬ E11 b16):=fun h=>((HE11.out _).1 h).2 rfl
    have I_E11 : Hid (∀ k,E11 k → E1 k):=fun k h=>((HE11.out k).1 h).1
    have O_b16 : Hid (w.heap.size ≤ b16):=by unfold Hid; have q2:=M201.out.at_; have q3:=EW.out.size; omega
    replace B_b5:=zmo M201 B_b5
    replace B_b7:=zmo M201 B_b7
    replace B_b12:=zmo M201 B_b12
    replace B_b11:=zmo M201 B_b11
    replace B_b15:=zmo M201 B_b15
    have B_b16:=zmb M201
    replace R0:=zme M201 R0
    replace RQ1:=zme M201 RQ1
    replace EW:=zet EW M201
    go_wp2_with ((with_reducible refine zst (L:=[44,41,31,100]) ?_ ?_); exact rfl)
    unfold Hid
    refine wpList_allocB rfl 41 #[I 0,.slice none 0 0,.bool false,I 0,I 0,I 0,I 0,I 0,I 0,.slice none 0 0,I 0,I 0] (by kernel_rfl) (fun b17 w202_ M202=>?_)
    have D_b5_b17:=zld B_b5 M202
    have D_b7_b17:=zld B_b7 M202
    have D_b12_b17:=zld B_b12 M202
    have D_b11_b17:=zld B_b11 M202
    have D_b15_b17:=zld B_b15 M202
    have D_b16_b17:=zld B_b16 M202
    obtain ⟨E111,HE111⟩ : ∃ X : Nat → Prop,Hid (∀ k,X k ↔ (E11 k ∧ k ≠ b17)):=⟨_,fun _=>Iff.rfl⟩
    replace R0:=zmd HE111 M202 R0
    replace RQ1:=zmd HE111 M202 RQ1
    replace N_b11:=znw HE111 N_b11
    replace N_b15:=znw HE111 N_b15
    replace N_b16:=znw HE111 N_b16
    have N_b17 : Hid (¬ E111 b17):=fun h=>((HE111.out _).1 h).2 rfl
    have I_E111 : Hid (∀ k,E111 k → E11 k):=fun k h=>((HE111.out k).1 h).1
    have O_b17 : Hid (w.heap.size ≤ b17):=by unfold Hid; have q2:=M202.out.at_; have q3:=EW.out.size; omega
    replace B_b5:=zmo M202 B_b5
    replace B_b7:=zmo M202 B_b7
    replace B_b12:=zmo M202 B_b12
    replace B_b11:=zmo M202 B_b11
    replace B_b15:=zmo M202 B_b15
    replace B_b16:=zmo M202 B_b16
    have B_b17:=zmb M202
    replace R0:=zme M202 R0
    replace RQ1:=zme M202 RQ1
    replace EW:=zet EW M202
    go_wp2_with ((with_reducible refine zst (L:=[44,41,31,100]) ?_ ?_); exact rfl)
    unfold Hid
    refine wpList_storeW rfl 31 (.tmp 16) (.tmp 95) rfl b16 rfl [.slice ca1 XS.cells.length cc1,.slice ua1 XS.undo.length uc1,.slice aa1 XS.answers.length ac1,.slice pa1 XS.past.length pc1] (rfl) B_b16 rfl (by kernel_rfl) rfl (fun w203_ M203=>?_)
    replace B_b5:=zwl M203 B_b5 D_b5_b16
    replace B_b7:=zwl M203 B_b7 D_b7_b16
    replace B_b12:=zwl M203 B_b12 D_b12_b16
    replace B_b11:=zwl M203 B_b11 D_b11_b16
    replace B_b15:=zwl M203 B_b15 D_b15_b16
    replace B_b16:=zwb M203
    replace B_b17:=zwg M203 B_b17 D_b16_b17
    replace R0:=zwr M203 R0 N_b16
    replace RQ1:=zwr M203 RQ1 N_b16
    replace EW:=zwe M203 EW O_b16
    go_wp2_with ((with_reducible refine zst (L:=[44,41,31,100]) ?_ ?_); exact rfl)
    unfold Hid
    refine wpList_storeW rfl 41 (.tmp 17) (.tmp 96) rfl b17 rfl [I XV.gen,.slice xa3 XV.box.length xc3,.bool XV.busy,I XV.now.client,I XV.now.token,I XV.now.call.kind,I XV.now.call.name,I XV.now.call.other,I XV.now.call.n,.slice la3 XV.plan.length lc3,I XV.says.err,I XV.says.n] (rfl) B_b17 rfl (by kernel_rfl) rfl (fun w204_ M204=>?_)
    replace B_b5:=zwl M204 B_b5 D_b5_b17
    replace B_b7:=zwl M204 B_b7 D_b7_b17
    replace B_b12:=zwl M204 B_b12 D_b12_b17
    replace B_b11:=zwl M204 B_b11 D_b11_b17
    replace B_b15:=zwl M204 B_b15 D_b15_b17
    replace B_b16:=zwl M204 B_b16 D_b16_b17
    replace B_b17:=zwb M204
    replace R0:=zwr M204 R0 N_b17
    replace RQ1:=zwr M204 RQ1 N_b17
    replace EW:=zwe M204 EW O_b17
    go_wp2_with fail
    refine held_drew (S:=fun w'=>w'.heap[b16]? = some (.cells #[.slice ca1 XS.cells.length cc1,.slice ua1 XS.undo.length uc1,.slice aa1 XS.answers.length ac1,.slice pa1 XS.past.length pc1] 31 (0,0)) ∧ w'.heap[b17]? = some (.cells #[I XV.gen,.slice xa3 XV.box.length xc3,.bool XV.busy,I XV.now.client,I XV.now.token,I XV.now.call.kind,I XV.now.call.name,I XV.now.call.other,I XV.now.call.n,.slice la3 XV.plan.length lc3,I XV.says.err,I XV.says.n] 41 (0,0))) (by kernel_rfl) (fun wd ed _=>?_)
    replace B_b5:=zbx B_b5 ed
    replace B_b7:=zbx B_b7 ed
    replace B_b12:=zbx B_b12 ed
    replace B_b11:=zbx B_b11 ed
    replace B_b15:=zbx B_b15 ed
    replace B_b16:=zbx B_b16 ed
    replace B_b17:=zbx B_b17 ed
    replace R0:=zrx R0 ed
    replace RQ1:=zrx RQ1 ed
    replace EW:=Lib.hid (EW.out.trans ed)
    have HSS : Hid (wd.heap[b16]? = some (.cells #[.slice ca1 XS.cells.length cc1,.slice ua1 XS.undo.length uc1,.slice aa1 XS.answers.length ac1,.slice pa1 XS.past.length pc1] 31 (0,0)) ∧ wd.heap[b17]? = some (.cells #[I XV.gen,.slice xa3 XV.box.length xc3,.bool XV.busy,I XV.now.client,I XV.now.token,I XV.now.call.kind,I XV.now.call.name,I XV.now.call.other,I XV.now.call.n,.slice la3 XV.plan.length lc3,I XV.says.err,I XV.says.n] 41 (0,0))):=⟨B_b16.out,B_b17.out⟩
    refine held_loadW 0 rfl (by kernel_rfl) (by kernel_rfl) (by kernel_rfl) (fun _ _ _ _ h=>h) rfl 31 (.tmp 16) rfl b16 rfl (fun w' hS=>hS.1) Tryz.underlying31 (by kernel_rfl) HSS ?_
    refine held_norm (fun K hK=>?_); go_simp; refine hK _ ?_; clear hK K
    refine held_loadW 1 rfl (by kernel_rfl) (by kernel_rfl) (by kernel_rfl) (fun _ _ _ _ h=>h) rfl 41 (.tmp 17) rfl b17 rfl (fun w' hS=>hS.2) Tryz.underlying41 (by kernel_rfl) HSS ?_
    refine held_norm (fun K hK=>?_); go_simp; refine hK _ ?_; clear hK K
    refine held_storeW 2 (by kernel_rfl) rfl rfl 31 (.tmp 15) (.tmp 101) rfl b15 rfl [.slice ca1 XS.cells.length cc1,.slice ua1 XS.undo.length uc1,.slice aa1 XS.answers.length ac1,.slice pa1 XS.past.length pc1] (rfl) B_b15 rfl (by kernel_rfl) rfl (fun w205_ M205=>⟨?_,?_⟩)
    ·exact ⟨M205.out.old B_b16.out (Nat.ne_of_gt D_b15_b16.out),M205.out.old B_b17.out (Nat.ne_of_gt D_b15_b17.out)⟩
    replace B_b5:=zwl M205 B_b5 D_b5_b15
    replace B_b7:=zwl M205 B_b7 D_b7_b15
    replace B_b12:=zwl M205 B_b12 D_b12_b15
    replace B_b11:=zwl M205 B_b11 D_b11_b15
    replace B_b15:=zwb M205
    replace B_b16:=zwg M205 B_b16 D_b15_b16
    replace B_b17:=zwg M205 B_b17 D_b15_b17
    replace R0:=zwr M205 R0 N_b15
    replace RQ1:=zwr M205 RQ1 N_b15
    replace EW:=zwe M205 EW O_b15
    clear HSS
    have HSS : Hid (w205_.heap[b16]? = some (.cells #[.slice ca1 XS.cells.length cc1,.slice ua1 XS.undo.length uc1,.slice aa1 XS.answers.length ac1,.slice pa1 XS.past.length pc1] 31 (0,0)) ∧ w205_.heap[b17]? = some (.cells #[I XV.gen,.slice xa3 XV.box.length xc3,.bool XV.busy,I XV.now.client,I XV.now.token,I XV.now.call.kind,I XV.now.call.name,I XV.now.call.other,I XV.now.call.n,.slice la3 XV.plan.length lc3,I XV.says.err,I XV.says.n] 41 (0,0))):=⟨B_b16.out,B_b17.out⟩
    refine held_norm (fun K hK=>?_); go_simp; refine hK _ ?_; clear hK K
    refine held_storeW 3 (by kernel_rfl) rfl rfl 41 (.tmp 13) (.tmp 102) rfl b11 rfl [I XV.gen,.slice xa3 XV.box.length xc3,.bool XV.busy,I XV.now.client,I XV.now.token,I XV.now.call.kind,I XV.now.call.name,I XV.now.call.other,I XV.now.call.n,.slice la3 XV.plan.length lc3,I XV.says.err,I XV.says.n] (rfl) B_b11 rfl (by kernel_rfl) rfl (fun w206_ M206=>⟨?_,?_⟩)
    ·exact ⟨M206.out.old B_b16.out (Nat.ne_of_gt D_b11_b16.out),M206.out.old B_b17.out (Nat.ne_of_gt D_b11_b17.out)⟩
    replace B_b5:=zwl M206 B_b5 D_b5_b11
    replace B_b7:=zwl M206 B_b7 D_b7_b11
    replace B_b12:=zwl M206 B_b12 D_b12_b11
    replace B_b11:=zwb M206
    replace B_b15:=zwg M206 B_b15 D_b11_b15
    replace B_b16:=zwg M206 B_b16 D_b11_b16
    replace B_b17:=zwg M206 B_b17 D_b11_b17
    replace R0:=zwr M206 R0 N_b11
    replace RQ1:=zwr M206 RQ1 N_b11
    replace EW:=zwe M206 EW O_b11
    clear HSS
    have HSS : Hid (w206_.heap[b16]? = some (.cells #[.slice ca1 XS.cells.length cc1,.slice ua1 XS.undo.length uc1,.slice aa1 XS.answers.length ac1,.slice pa1 XS.past.length pc1] 31 (0,0)) ∧ w206_.heap[b17]? = some (.cells #[I XV.gen,.slice xa3 XV.box.length xc3,.bool XV.busy,I XV.now.client,I XV.now.token,I XV.now.call.kind,I XV.now.call.name,I XV.now.call.other,I XV.now.call.n,.slice la3 XV.plan.length lc3,I XV.says.err,I XV.says.n] 41 (0,0))):=⟨B_b16.out,B_b17.out⟩
    refine held_norm (fun K hK=>?_); go_simp; refine hK _ ?_; clear hK K
    refine wpAnyH_done (by kernel_rfl) ?_ _
    clear HSS
    rcases hcase with ⟨hkl,rfl,hst⟩ | ⟨rfl,rfl⟩
    ·go_wp2
     go_roundw
     case rel=>exact ⟨k + 1,E111,XS,XV,_,_,_,_,_,_,by omega,by go_num,hst,SYN.out,RQ1.out.left.and R0.out.right,N_b15.out,N_b11.out,B_b5.out,B_b12.out,B_b7.out,B_b15.out,B_b11.out,EW.out⟩
     case measure=>simp [intOf]; omega
    ·generalize hAB : ansB ⟨qc,qt,⟨de,dn⟩⟩ = AX at *
     have hal : ((AX.length : Nat) : Int) = 8:=by rw [← hAB]; rfl
     go_wp2_with fail
     clear hal
     obtain ⟨hwc,hwp⟩:=wrs_cells PL mk.store
     have hcells : (commitSt (wrs mk.store PL) ⟨qc,qt,⟨qk,qa,qo,qn⟩⟩ ⟨de,dn⟩).cells = setAll mk.store.cells PL:=hwc
     have hpast : (((commitSt (wrs mk.store PL) ⟨qc,qt,⟨qk,qa,qo,qn⟩⟩ ⟨de,dn⟩).past.length : Nat) : Int) = (mk.store.past.length : Int) + 1:=by
      show (((wrs mk.store PL).past ++ [_]).length : Int) = _
      rw [List.length_append,hwp]
      simp
     have hundo : (commitSt (wrs mk.store PL) ⟨qc,qt,⟨qk,qa,qo,qn⟩⟩ ⟨de,dn⟩).undo.length = 0:=rfl
     have HCC:=Lib.hid hcells
     have HPP:=Lib.hid hpast
     clear hcells hpast hwc hwp
     have e0:=cell_of (i:=0) B_b5.out rfl
     have e1:=cell_of (i:=1) B_b5.out rfl
     have d0:=cell_of (i:=0) B_b12.out rfl
     have d1:=cell_of (i:=1) B_b12.out rfl
     have s0:=cell_of (i:=0) B_b15.out rfl
     have s1:=cell_of (i:=1) B_b15.out rfl
     have s3:=cell_of (i:=3) B_b15.out rfl
     have m3:=cell_of (i:=3) B_b7.out rfl
     refine wp_region_mono [none,some (.inl (.string ⟨AX.toArray⟩)),none,none,none,none,none,none,some (.inr fun (r : Value) (wx : World)=>Bytes wx r AX),some (.inl (.string ⟨AX.toArray⟩)),none,none,none,none,some (.inr fun (r : Value) (wx : World)=>Writes wx r L2),none,some (.inl (.bool true)),none,none,none,none,none,none,none,none,none,none,none,none,none,none,none,none,none,none,none] (by kernel_rfl) (by kernel_rfl) ?_ ?_
     ·exact ⟨trivial,trivial,trivial,trivial,trivial,trivial,trivial,trivial,fun _ _ _ he h=>h.ext he,trivial,trivial,trivial,trivial,trivial,monoWrites _,trivial,trivial,trivial,trivial,trivial,trivial,trivial,trivial,trivial,trivial,trivial,trivial,trivial,trivial,trivial,trivial,trivial,trivial,trivial,trivial,trivial,trivial⟩
     iterate 1 (refine wpM_p (fun K hK=>?_); go_simp; first | refine hK _ ?_ | refine ⟨(fun h=>by cases h),hK _ ?_⟩; clear hK K)
     refine wpM_x _ rfl (fun w' hw' hk=>?_) ?_
     ·have hcv:=run_string_of (P:=Tryz.prog) (RQ1.out.ext hw').out.2 Tryz.underlying24 Tryz.underlying5 Tryz.underlying9
      clear hk
      unfold makes
      go_simp
      exact ⟨Ext.refl _,rfl⟩
     refine wpM_norm (fun K hK=>?_); go_simp; refine hK _ ?_; clear hK K
     iterate 1 (refine wpM_p (fun K hK=>?_); go_simp; first | refine hK _ ?_ | refine ⟨(fun h=>by cases h),hK _ ?_⟩; clear hK K)
     refine wpM_q (I qc) rfl (fun w' hw'=>by have q0:=hw'.cell e0; go_simp) ?_
     refine wpM_norm (fun K hK=>?_); go_simp; refine hK _ ?_; clear hK K
     iterate 1 (refine wpM_p (fun K hK=>?_); go_simp; first | refine hK _ ?_ | refine ⟨(fun h=>by cases h),hK _ ?_⟩; clear hK K)
     refine wpM_q (I qt) rfl (fun w' hw'=>by have q0:=hw'.cell e1; go_simp) ?_
     refine wpM_norm (fun K hK=>?_); go_simp; refine hK _ ?_; clear hK K
     refine wpM_q (.agg #[I de,I dn]) rfl (fun w' hw'=>by have q0:=hw'.cell d0; have q1:=hw'.cell d1; go_simp) ?_
     refine wpM_norm (fun K hK=>?_); go_simp; refine hK _ ?_; clear hK K
     refine wpM_q (.agg #[I qc,I qt,I de,I dn]) rfl (fun w' hw'=>by kernel_rfl) ?_
     refine wpM_norm (fun K hK=>?_); go_simp; refine hK _ ?_; clear hK K
     refine wpM_l _ rfl (fun w' hw' hk=>?_) (fun v114=>?_)
     ·have hg:=(AnswerBytes_own qc qt de dn w').mono (fun r wx _ h=>(by rw [← hAB]; exact h.bytes : Bytes wx r AX))
      clear hk
      unfold makes
      go_simp
      exact ⟨Ext.refl _,hg⟩
     refine wpM_norm (fun K hK=>?_); go_simp; refine hK _ ?_; clear hK K
     refine wpM_x _ rfl (fun w' hw' hk=>?_) ?_
     ·have h114 : Bytes w' v114 AX:=hk 114 (by decide)
      have hcv:=run_string_of (P:=Tryz.prog) h114 Tryz.underlying24 Tryz.underlying5 Tryz.underlying9
      clear hk
      unfold makes
      go_simp
      exact ⟨Ext.refl _,rfl⟩
     refine wpM_norm (fun K hK=>?_); go_simp; refine hK _ ?_; clear hK K
     iterate 3 (refine wpM_p (fun K hK=>?_); go_simp; first | refine hK _ ?_ | refine ⟨(fun h=>by cases h),hK _ ?_⟩; clear hK K)
     refine wpM_q (.slice ca1 (commitSt (wrs mk.store PL) ⟨qc,qt,⟨qk,qa,qo,qn⟩⟩ ⟨de,dn⟩).cells.length cc1) rfl (fun w' hw'=>by have q0:=hw'.cell s0; go_simp) ?_
     refine wpM_norm (fun K hK=>?_); go_simp; refine hK _ ?_; clear hK K
     refine wpM_l _ rfl (fun w' hw' hk=>?_) (fun v120=>?_)
     ·have hof:=refOf_any _ (commitSt (wrs mk.store PL) ⟨qc,qt,⟨qk,qa,qo,qn⟩⟩ ⟨de,dn⟩).cells w' (st_iff.1 (RQ1.out.ext hw').out.1.1).1 (by rw [HCC.out]; exact HPM.out.1)
      have hg : Gives Tryz.prog 21 #[.slice ca1 (commitSt (wrs mk.store PL) ⟨qc,qt,⟨qk,qa,qo,qn⟩⟩ ⟨de,dn⟩).cells.length cc1] w' (fun r wx=>Writes wx r L2):=hof.mono fun e wx ⟨r,he,hx,h⟩=>⟨r,he,hx,by
       rw [HCC.out] at h
       have q:=HPM.out.2
       rw [q] at h
       exact h⟩
      clear hk
      unfold makes
      go_simp
      exact ⟨Ext.refl _,hg⟩
     refine wpM_norm (fun K hK=>?_); go_simp; refine hK _ ?_; clear hK K
     iterate 1 (refine wpM_p (fun K hK=>?_); go_simp; first | refine hK _ ?_ | refine ⟨(fun h=>by cases h),hK _ ?_⟩; clear hK K)
     refine wpM_x _ rfl (fun w' hw' hk=>?_) ?_
     ·have h120 : Writes w' v120 L2:=hk 120 (by decide)
      have hg:=sameWrites_eq rfl h120 (R0.out.ext hw').out.2
      clear hk
      unfold makes
      go_simp
      exact ⟨Ext.refl _,hg⟩
     refine wpM_norm (fun K hK=>?_); go_simp; refine hK _ ?_; clear hK K
     iterate 3 (refine wpM_p (fun K hK=>?_); go_simp; first | refine hK _ ?_ | refine ⟨(fun h=>by cases h),hK _ ?_⟩; clear hK K)
     refine wpM_q (.slice ua1 (commitSt (wrs mk.store PL) ⟨qc,qt,⟨qk,qa,qo,qn⟩⟩ ⟨de,dn⟩).undo.length uc1) rfl (fun w' hw'=>by have q0:=hw'.cell s1; go_simp) ?_
     refine wpM_norm (fun K hK=>?_); go_simp; refine hK _ ?_; clear hK K
     iterate 5 (refine wpM_p (fun K hK=>?_); go_simp; first | refine hK _ ?_ | refine ⟨(fun h=>by cases h),hK _ ?_⟩; clear hK K)
     refine wpM_q (.slice pa1 (commitSt (wrs mk.store PL) ⟨qc,qt,⟨qk,qa,qo,qn⟩⟩ ⟨de,dn⟩).past.length pc1) rfl (fun w' hw'=>by have q0:=hw'.cell s3; go_simp) ?_
     refine wpM_norm (fun K hK=>?_); go_simp; refine hK _ ?_; clear hK K
     iterate 3 (refine wpM_p (fun K hK=>?_); go_simp; first | refine hK _ ?_ | refine ⟨(fun h=>by cases h),hK _ ?_⟩; clear hK K)
     refine wpM_q (.slice pa mk.store.past.length pc) rfl (fun w' hw'=>by have q0:=hw'.cell m3; go_simp) ?_
     refine wpM_norm (fun K hK=>?_); go_simp; refine hK _ ?_; clear hK K
     have hpp:=HPP.out
     have hwr : IntKind.i64.wrap ((mk.store.past.length : Int) + 1) = (mk.store.past.length : Int) + 1:=by rw [IntKind.wrap_i64]; have:=SY0.out.past; omega
     iterate 5 (refine wpM_p (fun K hK=>?_); go_simp; first | refine hK _ ?_ | refine ⟨(fun h=>by cases h),hK _ ?_⟩; clear hK K)
     refine wpM_nil ?_
     intro w6 ex6 _
     replace B_b5:=zbx B_b5 ex6
     replace B_b7:=zbx B_b7 ex6
     replace B_b12:=zbx B_b12 ex6
     replace B_b11:=zbx B_b11 ex6
     replace B_b15:=zbx B_b15 ex6
     replace B_b16:=zbx B_b16 ex6
     replace B_b17:=zbx B_b17 ex6
     replace R0:=zrx R0 ex6
     replace RQ1:=zrx RQ1 ex6
     replace EW:=Lib.hid (EW.out.trans ex6)
     go_wp2
     go_ret
     exact ⟨rfl,EW.out⟩

end Go.Proofs.YtdmipnnfooleladGreat
