/- Texts of the proof, merged: G7. -/
import Derived.Test.YtdmipnnfooleladKR
import Derived.Test.YtdmipnnfooleladKP

namespace Go.Proofs.Ytdmipnnfoolelad
open Go.RowKit Go.Mk

/-- A row lies where its first cell does. -/
theorem rd_row_atG {w : World} {size n : Nat} {v : Value} {cs : List Value} {B : Nat → Prop} (h : Row w size v n cs) (hB : ∀ g off m cap u,v = .slice (some ⟨g,off,none⟩) m cap → cs[0]? = some u → w.cell? ⟨g,off,none⟩ = some u → B g) : Rd B (fun w=>Row w size v n cs) w:=fun w2 h2=>by
 refine Row.heap h (fun j u b off hj ⟨m,cap,e⟩=>?_)
 obtain ⟨hl,ao,cap',e',h3,h4,h0,h5⟩:=id h
 have hj0 : 0 < cs.length:=Nat.lt_of_le_of_lt (Nat.zero_le j) (List.getElem?_eq_some_iff.1 hj).1
 obtain ⟨b',off',e2,hc⟩:=h5 0 _ (List.getElem?_eq_getElem hj0)
 rw [e,e2] at e'
 simp only [Value.slice.injEq,Option.some.injEq,Addr.mk.injEq,and_true] at e'
 obtain ⟨⟨rfl,rfl⟩,_,_⟩:=e'
 rw [Nat.add_zero] at hc
 exact h2 b (hB b off m cap _ e (List.getElem?_eq_getElem hj0) hc) (cell_lt hc)
/-- No row of numbers lies in a box of empty slices. -/
theorem row_off {w : World} {size n : Nat} {v : Value} {cs : List Value} {D : Nat → Prop} (h : Row w size v n cs) (hI : ∀ u ∈ cs,u ≠ .slice none 0 0) (hD : ∀ b,¬ D b → ∃ t,w.heap[b]? = some (.cells #[.slice none 0 0,.slice none 0 0,.slice none 0 0,.slice none 0 0] t (0,0))) : Rd D (fun w=>Row w size v n cs) w :=
 rd_row_atG h fun g off m cap u e hu hc=>Classical.byContradiction fun hn=>by
  obtain ⟨t,ht⟩:=hD g hn
  rw [cells_at ht] at hc
  have hm:=Array.mem_of_getElem? hc
  simp at hm
  exact hI u (List.mem_of_getElem? hu) hm
theorem st_off {w : World} {c u a p : Value} {s : St} {D : Nat → Prop} (h : elSt w [c,u,a,p] s) (hD : ∀ b,¬ D b → ∃ t,w.heap[b]? = some (.cells #[.slice none 0 0,.slice none 0 0,.slice none 0 0,.slice none 0 0] t (0,0))) : Rd D (fun w=>elSt w [c,u,a,p] s) w:=by
 obtain ⟨h1,h2,h3,h4⟩:=st_iff.1 h
 have r1 : Rd D (fun w=>Ints w c s.cells) w:=row_off h1 (fun u hu=>by obtain ⟨x,_,rfl⟩:=List.mem_map.1 hu; exact fun e=>by cases e) hD
 have r2 : Rd D (fun w=>Writes w u s.undo) w:=row_off h2 (fun u hu=>by
  unfold cells2 at hu
  rw [List.mem_flatMap] at hu
  obtain ⟨p,_,hp⟩:=hu
  simp at hp
  rcases hp with rfl | rfl <;> exact fun e=>by cases e) hD
 have hA : Row w 4 a s.answers.length (cellsA s.answers):=(rowOf_flat (f:=fun (x : An)=>[I x.client,I x.token,I x.reply.err,I x.reply.n]) (fun _=>rfl)).1 h3
 have r3:=row_off hA (fun u hu=>by
  unfold cellsA at hu
  rw [List.mem_flatMap] at hu
  obtain ⟨p,_,hp⟩:=hu
  simp at hp
  rcases hp with rfl | rfl | rfl | rfl <;> exact fun e=>by cases e) hD
 have hP : Row w 6 p s.past.length (cells6 s.past):=rowOf_reqs.1 h4
 have r4:=row_off hP (fun u hu=>by
  unfold cells6 at hu
  rw [List.mem_flatMap] at hu
  obtain ⟨p,_,hp⟩:=hu
  simp at hp
  rcases hp with rfl | rfl | rfl | rfl | rfl | rfl <;> exact fun e=>by cases e) hD
 exact st_rd r1 r2 (r3.imp fun w h=>(rowOf_flat (f:=fun (x : An)=>[I x.client,I x.token,I x.reply.err,I x.reply.n]) (fun _=>rfl)).2 h) (r4.imp fun w h=>rowOf_reqs.2 h)

set_option maxRecDepth 100000 in
set_option maxHeartbeats 8000000 in
theorem GuardKeeps_any (v0 v1 : Value) (l : List (List Cl)) (steps : List (Int × Int)) (n : Int) (w : World) (h0 : RowOf 1 elCls w v0 l) (h1 : Writes w v1 steps) :
  Gives Try.prog 4 #[v0,v1,I n] w fun r _=>r = .bool true:=by
 refine gives_exts ?_
 have HV:=Lib.hid h0
 have HSTP:=Lib.hid h1
 obtain ⟨za,zc,rfl⟩:=rowOf_slice h0
 obtain ⟨ta,tc,rfl⟩:=row_slice h1
 clear h0 h1
 have EW:=Lib.hid (Ext.refl w)
 go_enter Try.func4,Try.ntmps4
 go_wp2_with fail
 refine (aliveGuard_any w).to fun r wl el hr=>?_
 subst hr
 replace EW:=Lib.hid (EW.out.trans el)
 clear el
 go_wp2_with fail
 refine (refRight_any _ l wl (HV.out.ext monoCls' EW.out)).mono ?_
 rintro e wr0 ⟨bR,rfl,hbR,e0⟩
 replace EW:=Lib.hid (EW.out.trans e0)
 clear e0
 cases bR
 case false =>
  go_wp2
  go_ret
  exact ⟨rfl,EW.out⟩
 have HRL:=Lib.hid (hbR.1 rfl)
 clear hbR
 by_cases hn0 : n < 0
 case pos =>
  go_wp2
  go_ret
  exact ⟨rfl,EW.out⟩
 by_cases hn9 : 9 < n
 case pos =>
  go_wp2
  go_ret
  exact ⟨rfl,EW.out⟩
 go_wp2_with fail
 refine (refPlay_keeps _ _ l steps wr0 (fun _=>True) HRL.out (Rd.widen (Rd.of (rowOf_heap heapCls _ _) (HV.out.ext monoCls' EW.out)) (fun _ _ _=>trivial)) (HSTP.out.ext EW.out)).to fun r wp ep hr=>?_
 obtain ⟨cs,es,rfl,hm,hes⟩:=rd_play hr
 obtain ⟨mk,hmk⟩ : ∃ mk,playM (newMc l) (steps.take 400) = mk:=⟨_,rfl⟩
 have hgd:=gd_play HRL.out steps
 rw [hmk] at hm hgd
 obtain ⟨c,u,a,p,box,plan,cl,rfl,hM⟩:=rd_mc hm
 obtain ⟨ca,cc,ua,uc,aa,ac,pa,pc,xa,xc,la,lc,ka,kc,rfl,rfl,rfl,rfl,rfl,rfl,rfl⟩:=hM.slices
 obtain ⟨B,HB0⟩ : ∃ B : Nat → Prop,Hid (∀ k,B k ↔ True):=⟨_,fun _=>Iff.rfl⟩
 have H:=Lib.hid (hM.widen (B:=B) (fun k _ _=>(HB0.out k).2 trivial))
 have GD:=Lib.hid hgd
 obtain ⟨esa,esc,rfl⟩:=row_slice hes.out
 clear hM hm hr hes hmk hgd HV HSTP
 replace EW:=Lib.hid (EW.out.trans ep)
 clear ep
 go_wp2_with ((with_reducible refine zst (L:=[43,40,30,67]) ?_ ?_); exact rfl)
 unfold Hid
 refine wpList_allocB rfl 43 #[.slice none 0 0,.slice none 0 0,.slice none 0 0,.slice none 0 0,I 0,.slice none 0 0,.bool false,I 0,I 0,I 0,I 0,I 0,I 0,.slice none 0 0,I 0,I 0,.bool false,I 0,I 0,.slice none 0 0] (by kernel_rfl) (fun b7 w1_ M1=>?_)
 obtain ⟨B1,HB1⟩ : ∃ X : Nat → Prop,Hid (∀ k,X k ↔ (B k ∧ k ≠ b7)):=⟨_,fun _=>Iff.rfl⟩
 replace H:=Lib.hid (H.out.widen (B:=B1) (fun k hk h=>(HB1.out k).2 ⟨h,by have q2:=M1.out.at_; omega⟩))
 have N_b7 : Hid (¬ B1 b7):=fun h=>((HB1.out _).1 h).2 rfl
 have I_B1 : Hid (∀ k,B1 k → B k):=fun k h=>((HB1.out k).1 h).1
 have O_b7 : Hid (w.heap.size ≤ b7):=by unfold Hid; have q2:=M1.out.at_; have q3:=EW.out.size; omega
 have B_b7:=zmb M1
 replace H:=Lib.hid (H.out.ext M1.out.ext)
 replace EW:=zet EW M1
 go_wp2_with ((with_reducible refine zst (L:=[43,40,30,67]) ?_ ?_); exact rfl)
 unfold Hid
 refine wpList_storeW rfl 43 (.tmp 7) (.tmp 31) rfl b7 rfl [.slice ca mk.store.cells.length cc,.slice ua mk.store.undo.length uc,.slice aa mk.store.answers.length ac,.slice pa mk.store.past.length pc,I mk.server.gen,.slice xa mk.server.box.length xc,.bool mk.server.busy,I mk.server.now.client,I mk.server.now.token,I mk.server.now.call.kind,I mk.server.now.call.name,I mk.server.now.call.other,I mk.server.now.call.n,.slice la mk.server.plan.length lc,I mk.server.says.err,I mk.server.says.n,.bool mk.up,I mk.pause,I mk.falls,.slice ka mk.clients.length kc] (rfl) B_b7 rfl (by kernel_rfl) rfl (fun w2_ M2=>?_)
 replace B_b7:=zwb M2
 replace H:=Lib.hid (M2.out.rdM H.out N_b7.out)
 replace EW:=zwe M2 EW O_b7
 go_wp2_with ((with_reducible refine zst (L:=[43,40,30,67]) ?_ ?_); exact rfl)
 unfold Hid
 refine wpList_loadW rfl 43 (.tmp 7) rfl b7 rfl B_b7 Try.underlying43 (by kernel_rfl) (fun v34 H_v34=>?_)
 go_wp2_with fail
 rw [H_v34.out]
 clear H_v34
 obtain ⟨XM,xe,hfall⟩ : ∃ x y,fallM mk = (x,y):=⟨_,_,rfl⟩
 have HF:=Lib.hid hfall
 clear hfall
 obtain ⟨C,HC⟩ : ∃ X : Nat → Prop,Hid (∀ k,X k ↔ (B1 k ∨ w2_.heap.size ≤ k)):=⟨_,fun _=>Iff.rfl⟩
 replace H:=Lib.hid (H.out.widen (B:=C) fun k _ h=>(HC.out k).2 (.inl h))
 replace N_b7 : Hid (¬ C b7):=zgrG HC N_b7 B_b7
 refine (FallG_keeps mk _ _ _ _ _ _ _ w2_ C H.out (GD.out.small (by decide)) GD.out.falls.1).to fun r w2 e2 hr=>?_
 rw [HF.out] at hr
 obtain ⟨cs,rfl,hcs⟩:=rd_tupE hr
 obtain ⟨c1,u1,a1,p1,box1,plan1,cl1,rfl,hM⟩:=rd_mc hcs
 obtain ⟨ca1,cc1,ua1,uc1,aa1,ac1,pa1,pc1,xa1,xc1,la1,lc1,ka1,kc1,rfl,rfl,rfl,rfl,rfl,rfl,rfl⟩:=hM.slices
 have X1:=Lib.hid (hM.widen (B:=C) fun k _ h=>(HC.out k).2 (by rcases h with h | h; exact h.elim; exact .inr h))
 clear hr hcs hM
 replace B_b7:=zbx B_b7 e2
 replace H:=Lib.hid (H.out.ext e2)
 replace EW:=Lib.hid (EW.out.trans e2)
 clear e2
 go_wp2_with ((with_reducible refine zst (L:=[43,40,30,67]) ?_ ?_); exact rfl)
 unfold Hid
 refine wpList_allocB rfl 43 #[.slice none 0 0,.slice none 0 0,.slice none 0 0,.slice none 0 0,I 0,.slice none 0 0,.bool false,I 0,I 0,I 0,I 0,I 0,I 0,.slice none 0 0,I 0,I 0,.bool false,I 0,I 0,.slice none 0 0] (by kernel_rfl) (fun b9 w3_ M3=>?_)
 have D_b7_b9:=zld B_b7 M3
 obtain ⟨C1,HC1⟩ : ∃ X : Nat → Prop,Hid (∀ k,X k ↔ (C k ∧ k ≠ b9)):=⟨_,fun _=>Iff.rfl⟩
 replace H:=Lib.hid (H.out.widen (B:=C1) (fun k hk h=>(HC1.out k).2 ⟨h,by have q2:=M3.out.at_; omega⟩))
 replace X1:=Lib.hid (X1.out.widen (B:=C1) (fun k hk h=>(HC1.out k).2 ⟨h,by have q2:=M3.out.at_; omega⟩))
 replace N_b7:=znw HC1 N_b7
 have N_b9 : Hid (¬ C1 b9):=fun h=>((HC1.out _).1 h).2 rfl
 have I_C1 : Hid (∀ k,C1 k → C k):=fun k h=>((HC1.out k).1 h).1
 have O_b9 : Hid (w.heap.size ≤ b9):=by unfold Hid; have q2:=M3.out.at_; have q3:=EW.out.size; omega
 replace B_b7:=zmo M3 B_b7
 have B_b9:=zmb M3
 replace H:=Lib.hid (H.out.ext M3.out.ext)
 replace X1:=Lib.hid (X1.out.ext M3.out.ext)
 replace EW:=zet EW M3
 go_wp2_with ((with_reducible refine zst (L:=[43,40,30,67]) ?_ ?_); exact rfl)
 unfold Hid
 refine wpList_storeW rfl 43 (.tmp 9) (.tmp 36) rfl b9 rfl [.slice ca1 XM.store.cells.length cc1,.slice ua1 XM.store.undo.length uc1,.slice aa1 XM.store.answers.length ac1,.slice pa1 XM.store.past.length pc1,I XM.server.gen,.slice xa1 XM.server.box.length xc1,.bool XM.server.busy,I XM.server.now.client,I XM.server.now.token,I XM.server.now.call.kind,I XM.server.now.call.name,I XM.server.now.call.other,I XM.server.now.call.n,.slice la1 XM.server.plan.length lc1,I XM.server.says.err,I XM.server.says.n,.bool XM.up,I XM.pause,I XM.falls,.slice ka1 XM.clients.length kc1] (rfl) B_b9 rfl (by kernel_rfl) rfl (fun w4_ M4=>?_)
 replace B_b7:=zwl M4 B_b7 D_b7_b9
 replace B_b9:=zwb M4
 replace H:=Lib.hid (M4.out.rdM H.out N_b9.out)
 replace X1:=Lib.hid (M4.out.rdM X1.out N_b9.out)
 replace EW:=zwe M4 EW O_b9
 have GX : Hid (Gd l XM 401):=by have q:=gd_fall GD.out; rw [HF.out] at q; exact q
 go_wp2_with fail
 go_loopw [39] (fun i wr=>∃ (k : Nat) (E : Nat → Prop) (x : Mc) (c' u' a' p' box' plan' cl' : Value),(k : Int) ≤ n ∧ i = I k ∧ x = ticks k XM ∧ Gd l x (401 + k) ∧ RdM E wr mk (.slice ca mk.store.cells.length cc) (.slice ua mk.store.undo.length uc) (.slice aa mk.store.answers.length ac) (.slice pa mk.store.past.length pc) (.slice xa mk.server.box.length xc) (.slice la mk.server.plan.length lc) (.slice ka mk.clients.length kc) ∧ RdM E wr x c' u' a' p' box' plan' cl' ∧ ¬ E b7 ∧ ¬ E b9 ∧ wr.heap[b7]? = some (.cells #[.slice ca mk.store.cells.length cc,.slice ua mk.store.undo.length uc,.slice aa mk.store.answers.length ac,.slice pa mk.store.past.length pc,I mk.server.gen,.slice xa mk.server.box.length xc,.bool mk.server.busy,I mk.server.now.client,I mk.server.now.token,I mk.server.now.call.kind,I mk.server.now.call.name,I mk.server.now.call.other,I mk.server.now.call.n,.slice la mk.server.plan.length lc,I mk.server.says.err,I mk.server.says.n,.bool mk.up,I mk.pause,I mk.falls,.slice ka mk.clients.length kc] 43 (0,0)) ∧ wr.heap[b9]? = some (.cells (cells20 x c' u' a' p' box' plan' cl').toArray 43 (0,0)) ∧ Ext w wr) (fun i _=>n.toNat - (intOf i).toNat)
 case atStart=>exact ⟨0,C1,XM,_,_,_,_,_,_,_,by omega,rfl,rfl,GX.out,H.out,X1.out,N_b7.out,N_b9.out,B_b7.out,B_b9.out,EW.out⟩
 case round =>
  obtain ⟨k,E,x,c',u',a',p',box',plan',cl',hk,rfl,hxt,gx,hH,hX,n7,n9,hb7,hb9,hex⟩:=hrel
  clear B_b7 B_b9 H X1 N_b7 N_b9 EW GX
  obtain ⟨ca0,cc0,ua0,uc0,aa0,ac0,pa0,pc0,xa0,xc0,la0,lc0,ka0,kc0,rfl,rfl,rfl,rfl,rfl,rfl,rfl⟩:=hX.slices
  have H:=Lib.hid hH
  have X:=Lib.hid hX
  have GX:=Lib.hid gx
  have HXT:=Lib.hid hxt
  have N_b7:=Lib.hid n7
  have N_b9:=Lib.hid n9
  have B_b7:=Lib.hid hb7
  have B_b9 : Hid (wr.heap[b9]? = some (.cells #[.slice ca0 x.store.cells.length cc0,.slice ua0 x.store.undo.length uc0,.slice aa0 x.store.answers.length ac0,.slice pa0 x.store.past.length pc0,I x.server.gen,.slice xa0 x.server.box.length xc0,.bool x.server.busy,I x.server.now.client,I x.server.now.token,I x.server.now.call.kind,I x.server.now.call.name,I x.server.now.call.other,I x.server.now.call.n,.slice la0 x.server.plan.length lc0,I x.server.says.err,I x.server.says.n,.bool x.up,I x.pause,I x.falls,.slice ka0 x.clients.length kc0] 43 (0,0))):=hb9
  have EW:=Lib.hid hex
  clear hH hX gx hxt n7 n9 hb7 hb9 hex
  by_cases hlt : (k : Int) < n
  ·have HLT:=Lib.hid hlt
   go_wp2_with ((with_reducible refine zst (L:=[43,40,30,67]) ?_ ?_); exact rfl)
   unfold Hid
   clear hlt
   refine wpList_loadW rfl 43 (.tmp 9) rfl b9 rfl B_b9 Try.underlying43 (by kernel_rfl) (fun v41 H_v41=>?_)
   go_wp2_with fail
   rw [H_v41.out]
   clear H_v41
   obtain ⟨y,hy⟩ : ∃ y,tickM x = y:=⟨_,rfl⟩
   have HY:=Lib.hid hy
   clear hy
   obtain ⟨E1,HE1⟩ : ∃ X : Nat → Prop,Hid (∀ k,X k ↔ (E k ∨ wr.heap.size ≤ k)):=⟨_,fun _=>Iff.rfl⟩
   replace H:=Lib.hid (H.out.widen (B:=E1) fun k _ h=>(HE1.out k).2 (.inl h))
   replace X:=Lib.hid (X.out.widen (B:=E1) fun k _ h=>(HE1.out k).2 (.inl h))
   replace N_b7 : Hid (¬ E1 b7):=zgrG HE1 N_b7 B_b7
   replace N_b9 : Hid (¬ E1 b9):=zgrG HE1 N_b9 B_b9
   refine (TickG_keeps x _ _ _ _ _ _ _ wr E1 X.out (GX.out.small (by have:=HLT.out; omega)) GX.out.gen GX.out.down).to fun r w2 e2 hr=>?_
   rw [HY.out] at hr
   obtain ⟨cs,rfl,hcs⟩:=rd_agg hr
   obtain ⟨c1,u1,a1,p1,box1,plan1,cl1,rfl,hM⟩:=rd_mc hcs
   obtain ⟨ca1,cc1,ua1,uc1,aa1,ac1,pa1,pc1,xa1,xc1,la1,lc1,ka1,kc1,rfl,rfl,rfl,rfl,rfl,rfl,rfl⟩:=hM.slices
   have Y:=Lib.hid (hM.widen (B:=E1) fun k _ h=>(HE1.out k).2 (by rcases h with h | h; exact h.elim; exact .inr h))
   clear hr hcs hM
   replace B_b7:=zbx B_b7 e2
   replace B_b9:=zbx B_b9 e2
   replace H:=Lib.hid (H.out.ext e2)
   replace X:=Lib.hid (X.out.ext e2)
   replace EW:=Lib.hid (EW.out.trans e2)
   clear e2
   go_wp2_with ((with_reducible refine zst (L:=[43,40,30,67]) ?_ ?_); exact rfl)
   unfold Hid
   refine wpList_storeW rfl 43 (.tmp 9) (.tmp 42) rfl b9 rfl [.slice ca1 y.store.cells.length cc1,.slice ua1 y.store.undo.length uc1,.slice aa1 y.store.answers.length ac1,.slice pa1 y.store.past.length pc1,I y.server.gen,.slice xa1 y.server.box.length xc1,.bool y.server.busy,I y.server.now.client,I y.server.now.token,I y.server.now.call.kind,I y.server.now.call.name,I y.server.now.call.other,I y.server.now.call.n,.slice la1 y.server.plan.length lc1,I y.server.says.err,I y.server.says.n,.bool y.up,I y.pause,I y.falls,.slice ka1 y.clients.length kc1] (rfl) B_b9 rfl (by kernel_rfl) rfl (fun w101_ M101=>?_)
   replace B_b7:=zwl M101 B_b7 D_b7_b9
   replace B_b9:=zwb M101
   replace H:=Lib.hid (M101.out.rdM H.out N_b9.out)
   replace X:=Lib.hid (M101.out.rdM X.out N_b9.out)
   replace Y:=Lib.hid (M101.out.rdM Y.out N_b9.out)
   replace EW:=zwe M101 EW O_b9
   go_wp2
   go_roundw
   case rel =>
    refine ⟨k + 1,E1,y,_,_,_,_,_,_,_,by have:=HLT.out; omega,by go_num,?_,?_,H.out,Y.out,N_b7.out,N_b9.out,B_b7.out,B_b9.out,EW.out⟩
    ·rw [← HY.out,HXT.out]; rfl
    ·have q:=gd_tick GX.out
     rw [HY.out] at q
     exact q
   case measure=>have:=HLT.out; simp [intOf]; omega
  ·obtain rfl : n = (k : Int):=by omega
   have hcl : x.clients = mk.clients:=by
    have q:=fall_clients mk
    rw [HF.out] at q
    rw [HXT.out,ticks_clients]
    exact q
   have hbk : backSt x.store = backSt mk.store:=by
    have q:=fall_store mk
    rw [HF.out] at q
    rw [HXT.out,ticks_back]
    exact congrArg backSt q
   have HCL:=Lib.hid hcl
   have HBK:=Lib.hid hbk
   have K9 : Hid (k ≤ 9):=by unfold Hid; omega
   clear hcl hbk hlt hk hn0 hn9
   go_wp2_with ((with_reducible refine zst (L:=[43,40,30,67]) ?_ ?_); exact rfl)
   unfold Hid
   refine wpList_loadW rfl 43 (.tmp 7) rfl b7 rfl B_b7 Try.underlying43 (by kernel_rfl) (fun v44 H_v44=>?_)
   go_wp2_with ((with_reducible refine zst (L:=[43,40,30,67]) ?_ ?_); exact rfl)
   unfold Hid
   refine wpList_allocB rfl 43 #[.slice none 0 0,.slice none 0 0,.slice none 0 0,.slice none 0 0,I 0,.slice none 0 0,.bool false,I 0,I 0,I 0,I 0,I 0,I 0,.slice none 0 0,I 0,I 0,.bool false,I 0,I 0,.slice none 0 0] (by kernel_rfl) (fun b11 w101_ M101=>?_)
   have D_b7_b11:=zld B_b7 M101
   have D_b9_b11:=zld B_b9 M101
   obtain ⟨E1,HE1⟩ : ∃ X : Nat → Prop,Hid (∀ k,X k ↔ (E k ∧ k ≠ b11)):=⟨_,fun _=>Iff.rfl⟩
   replace H:=Lib.hid (H.out.widen (B:=E1) (fun k hk h=>(HE1.out k).2 ⟨h,by have q2:=M101.out.at_; omega⟩))
   replace X:=Lib.hid (X.out.widen (B:=E1) (fun k hk h=>(HE1.out k).2 ⟨h,by have q2:=M101.out.at_; omega⟩))
   replace N_b7:=znw HE1 N_b7
   replace N_b9:=znw HE1 N_b9
   have N_b11 : Hid (¬ E1 b11):=fun h=>((HE1.out _).1 h).2 rfl
   have I_E1 : Hid (∀ k,E1 k → E k):=fun k h=>((HE1.out k).1 h).1
   have O_b11 : Hid (w.heap.size ≤ b11):=by unfold Hid; have q2:=M101.out.at_; have q3:=EW.out.size; omega
   replace B_b7:=zmo M101 B_b7
   replace B_b9:=zmo M101 B_b9
   have B_b11:=zmb M101
   replace H:=Lib.hid (H.out.ext M101.out.ext)
   replace X:=Lib.hid (X.out.ext M101.out.ext)
   replace EW:=zet EW M101
   go_wp2_with ((with_reducible refine zst (L:=[43,40,30,67]) ?_ ?_); exact rfl)
   unfold Hid
   refine wpList_storeW rfl 43 (.tmp 11) (.tmp 44) rfl b11 rfl _ (zcv H_v44) B_b11 rfl (by kernel_rfl) rfl (fun w102_ M102=>?_)
   replace B_b7:=zwl M102 B_b7 D_b7_b11
   replace B_b9:=zwl M102 B_b9 D_b9_b11
   replace B_b11:=zwb M102
   replace H:=Lib.hid (M102.out.rdM H.out N_b11.out)
   replace X:=Lib.hid (M102.out.rdM X.out N_b11.out)
   replace EW:=zwe M102 EW O_b11
   go_wp2_with fail
   refine held_drew (S:=fun w'=>w'.heap[b9]? = some (.cells #[.slice ca0 x.store.cells.length cc0,.slice ua0 x.store.undo.length uc0,.slice aa0 x.store.answers.length ac0,.slice pa0 x.store.past.length pc0,I x.server.gen,.slice xa0 x.server.box.length xc0,.bool x.server.busy,I x.server.now.client,I x.server.now.token,I x.server.now.call.kind,I x.server.now.call.name,I x.server.now.call.other,I x.server.now.call.n,.slice la0 x.server.plan.length lc0,I x.server.says.err,I x.server.says.n,.bool x.up,I x.pause,I x.falls,.slice ka0 x.clients.length kc0] 43 (0,0))) (by kernel_rfl) (fun wd ed _=>?_)
   replace B_b7:=zbx B_b7 ed
   replace B_b9:=zbx B_b9 ed
   replace B_b11:=zbx B_b11 ed
   replace H:=Lib.hid (H.out.ext ed)
   replace X:=Lib.hid (X.out.ext ed)
   replace EW:=Lib.hid (EW.out.trans ed)
   have HSS : Hid (wd.heap[b9]? = some (.cells #[.slice ca0 x.store.cells.length cc0,.slice ua0 x.store.undo.length uc0,.slice aa0 x.store.answers.length ac0,.slice pa0 x.store.past.length pc0,I x.server.gen,.slice xa0 x.server.box.length xc0,.bool x.server.busy,I x.server.now.client,I x.server.now.token,I x.server.now.call.kind,I x.server.now.call.name,I x.server.now.call.other,I x.server.now.call.n,.slice la0 x.server.plan.length lc0,I x.server.says.err,I x.server.says.n,.bool x.up,I x.pause,I x.falls,.slice ka0 x.clients.length kc0] 43 (0,0))):=B_b9.out
   clear ed
   refine held_pure 0 rfl (by kernel_rfl) (by kernel_rfl) (by kernel_rfl) (fun _ _ _ _ h=>h) rfl HSS.out (fun K hK=>?_); go_simp; refine hK _ ?_; clear hK K
   refine held_take 1 rfl (by kernel_rfl) (by kernel_rfl) (by kernel_rfl) (fun _ _ _ _ h=>h) (.agg #[.slice ca0 x.store.cells.length cc0,.slice ua0 x.store.undo.length uc0,.slice aa0 x.store.answers.length ac0,.slice pa0 x.store.past.length pc0]) rfl (fun w' hS=>run_loadM 30 (.tmp 45) rfl b9 0 rfl hS [.slice ca0 x.store.cells.length cc0,.slice ua0 x.store.undo.length uc0,.slice aa0 x.store.answers.length ac0,.slice pa0 x.store.past.length pc0] rfl Try.underlying30 (by kernel_rfl)) HSS.out ?_
   refine held_norm (fun K hK=>?_); go_simp; refine hK _ ?_; clear hK K
   refine held_pure 2 rfl (by kernel_rfl) (by kernel_rfl) (by kernel_rfl) (fun _ _ _ _ h=>h) rfl HSS.out (fun K hK=>?_); go_simp; refine hK _ ?_; clear hK K
   refine held_take 3 rfl (by kernel_rfl) (by kernel_rfl) (by kernel_rfl) (fun _ _ _ _ h=>h) (.agg #[I x.server.gen,.slice xa0 x.server.box.length xc0,.bool x.server.busy,I x.server.now.client,I x.server.now.token,I x.server.now.call.kind,I x.server.now.call.name,I x.server.now.call.other,I x.server.now.call.n,.slice la0 x.server.plan.length lc0,I x.server.says.err,I x.server.says.n]) rfl (fun w' hS=>run_loadM 40 (.tmp 47) rfl b9 4 rfl hS [I x.server.gen,.slice xa0 x.server.box.length xc0,.bool x.server.busy,I x.server.now.client,I x.server.now.token,I x.server.now.call.kind,I x.server.now.call.name,I x.server.now.call.other,I x.server.now.call.n,.slice la0 x.server.plan.length lc0,I x.server.says.err,I x.server.says.n] rfl Try.underlying40 (by kernel_rfl)) HSS.out ?_
   refine held_norm (fun K hK=>?_); go_simp; refine hK _ ?_; clear hK K
   refine held_pure 4 rfl (by kernel_rfl) (by kernel_rfl) (by kernel_rfl) (fun _ _ _ _ h=>h) rfl HSS.out (fun K hK=>?_); go_simp; refine hK _ ?_; clear hK K
   refine held_take 5 rfl (by kernel_rfl) (by kernel_rfl) (by kernel_rfl) (fun _ _ _ _ h=>h) (.bool x.up) rfl (fun w' hS=>by have q0:=cell_of (i:=16) hS rfl; go_simp) HSS.out ?_
   refine held_norm (fun K hK=>?_); go_simp; refine hK _ ?_; clear hK K
   refine held_pure 6 rfl (by kernel_rfl) (by kernel_rfl) (by kernel_rfl) (fun _ _ _ _ h=>h) rfl HSS.out (fun K hK=>?_); go_simp; refine hK _ ?_; clear hK K
   refine held_take 7 rfl (by kernel_rfl) (by kernel_rfl) (by kernel_rfl) (fun _ _ _ _ h=>h) (I x.pause) rfl (fun w' hS=>by have q0:=cell_of (i:=17) hS rfl; go_simp) HSS.out ?_
   refine held_norm (fun K hK=>?_); go_simp; refine hK _ ?_; clear hK K
   refine held_pure 8 rfl (by kernel_rfl) (by kernel_rfl) (by kernel_rfl) (fun _ _ _ _ h=>h) rfl HSS.out (fun K hK=>?_); go_simp; refine hK _ ?_; clear hK K
   refine held_take 9 rfl (by kernel_rfl) (by kernel_rfl) (by kernel_rfl) (fun _ _ _ _ h=>h) (I x.falls) rfl (fun w' hS=>by have q0:=cell_of (i:=18) hS rfl; go_simp) HSS.out ?_
   refine held_norm (fun K hK=>?_); go_simp; refine hK _ ?_; clear hK K
   refine held_pure 10 rfl (by kernel_rfl) (by kernel_rfl) (by kernel_rfl) (fun _ _ _ _ h=>h) rfl HSS.out (fun K hK=>?_); go_simp; refine hK _ ?_; clear hK K
   refine held_store 11 (by kernel_rfl) rfl rfl 30 (.tmp 55) (.tmp 46) rfl b11 0 rfl [.slice ca0 x.store.cells.length cc0,.slice ua0 x.store.undo.length uc0,.slice aa0 x.store.answers.length ac0,.slice pa0 x.store.past.length pc0] (rfl) B_b11.out (Nat.le_of_ble_eq_true rfl) (by kernel_rfl) (ones_of rfl) #[.slice ca0 x.store.cells.length cc0,.slice ua0 x.store.undo.length uc0,.slice aa0 x.store.answers.length ac0,.slice pa0 x.store.past.length pc0,I mk.server.gen,.slice xa mk.server.box.length xc,.bool mk.server.busy,I mk.server.now.client,I mk.server.now.token,I mk.server.now.call.kind,I mk.server.now.call.name,I mk.server.now.call.other,I mk.server.now.call.n,.slice la mk.server.plan.length lc,I mk.server.says.err,I mk.server.says.n,.bool mk.up,I mk.pause,I mk.falls,.slice ka mk.clients.length kc] ((splN_eq _ _ _ (Nat.le_of_ble_eq_true rfl)).trans rfl) (fun w103_ M103=>⟨?_,?_⟩)
   ·exact M103.out.old B_b9.out (Nat.ne_of_lt D_b9_b11.out)
   replace B_b7:=zwl M103 B_b7 D_b7_b11
   replace B_b9:=zwl M103 B_b9 D_b9_b11
   replace B_b11:=zwb M103
   replace H:=Lib.hid (M103.out.rdM H.out N_b11.out)
   replace X:=Lib.hid (M103.out.rdM X.out N_b11.out)
   replace EW:=zwe M103 EW O_b11
   clear HSS
   have HSS : Hid (w103_.heap[b9]? = some (.cells #[.slice ca0 x.store.cells.length cc0,.slice ua0 x.store.undo.length uc0,.slice aa0 x.store.answers.length ac0,.slice pa0 x.store.past.length pc0,I x.server.gen,.slice xa0 x.server.box.length xc0,.bool x.server.busy,I x.server.now.client,I x.server.now.token,I x.server.now.call.kind,I x.server.now.call.name,I x.server.now.call.other,I x.server.now.call.n,.slice la0 x.server.plan.length lc0,I x.server.says.err,I x.server.says.n,.bool x.up,I x.pause,I x.falls,.slice ka0 x.clients.length kc0] 43 (0,0))):=B_b9.out
   refine held_norm (fun K hK=>?_); go_simp; refine hK _ ?_; clear hK K
   refine held_pure 12 rfl (by kernel_rfl) (by kernel_rfl) (by kernel_rfl) (fun _ _ _ _ h=>h) rfl HSS.out (fun K hK=>?_); go_simp; refine hK _ ?_; clear hK K
   refine held_store 13 (by kernel_rfl) rfl rfl 40 (.tmp 56) (.tmp 48) rfl b11 4 rfl [I x.server.gen,.slice xa0 x.server.box.length xc0,.bool x.server.busy,I x.server.now.client,I x.server.now.token,I x.server.now.call.kind,I x.server.now.call.name,I x.server.now.call.other,I x.server.now.call.n,.slice la0 x.server.plan.length lc0,I x.server.says.err,I x.server.says.n] (rfl) B_b11.out (Nat.le_of_ble_eq_true rfl) (by kernel_rfl) (ones_of rfl) #[.slice ca0 x.store.cells.length cc0,.slice ua0 x.store.undo.length uc0,.slice aa0 x.store.answers.length ac0,.slice pa0 x.store.past.length pc0,I x.server.gen,.slice xa0 x.server.box.length xc0,.bool x.server.busy,I x.server.now.client,I x.server.now.token,I x.server.now.call.kind,I x.server.now.call.name,I x.server.now.call.other,I x.server.now.call.n,.slice la0 x.server.plan.length lc0,I x.server.says.err,I x.server.says.n,.bool mk.up,I mk.pause,I mk.falls,.slice ka mk.clients.length kc] ((splN_eq _ _ _ (Nat.le_of_ble_eq_true rfl)).trans rfl) (fun w104_ M104=>⟨?_,?_⟩)
   ·exact M104.out.old B_b9.out (Nat.ne_of_lt D_b9_b11.out)
   replace B_b7:=zwl M104 B_b7 D_b7_b11
   replace B_b9:=zwl M104 B_b9 D_b9_b11
   replace B_b11:=zwb M104
   replace H:=Lib.hid (M104.out.rdM H.out N_b11.out)
   replace X:=Lib.hid (M104.out.rdM X.out N_b11.out)
   replace EW:=zwe M104 EW O_b11
   clear HSS
   have HSS : Hid (w104_.heap[b9]? = some (.cells #[.slice ca0 x.store.cells.length cc0,.slice ua0 x.store.undo.length uc0,.slice aa0 x.store.answers.length ac0,.slice pa0 x.store.past.length pc0,I x.server.gen,.slice xa0 x.server.box.length xc0,.bool x.server.busy,I x.server.now.client,I x.server.now.token,I x.server.now.call.kind,I x.server.now.call.name,I x.server.now.call.other,I x.server.now.call.n,.slice la0 x.server.plan.length lc0,I x.server.says.err,I x.server.says.n,.bool x.up,I x.pause,I x.falls,.slice ka0 x.clients.length kc0] 43 (0,0))):=B_b9.out
   refine held_norm (fun K hK=>?_); go_simp; refine hK _ ?_; clear hK K
   refine held_pure 14 rfl (by kernel_rfl) (by kernel_rfl) (by kernel_rfl) (fun _ _ _ _ h=>h) rfl HSS.out (fun K hK=>?_); go_simp; refine hK _ ?_; clear hK K
   refine held_store 15 (by kernel_rfl) rfl rfl 4 (.tmp 57) (.tmp 50) rfl b11 16 rfl [.bool x.up] (rfl) B_b11.out (Nat.le_of_ble_eq_true rfl) (by kernel_rfl) (ones_of rfl) #[.slice ca0 x.store.cells.length cc0,.slice ua0 x.store.undo.length uc0,.slice aa0 x.store.answers.length ac0,.slice pa0 x.store.past.length pc0,I x.server.gen,.slice xa0 x.server.box.length xc0,.bool x.server.busy,I x.server.now.client,I x.server.now.token,I x.server.now.call.kind,I x.server.now.call.name,I x.server.now.call.other,I x.server.now.call.n,.slice la0 x.server.plan.length lc0,I x.server.says.err,I x.server.says.n,.bool x.up,I mk.pause,I mk.falls,.slice ka mk.clients.length kc] ((splN_eq _ _ _ (Nat.le_of_ble_eq_true rfl)).trans rfl) (fun w105_ M105=>⟨?_,?_⟩)
   ·exact M105.out.old B_b9.out (Nat.ne_of_lt D_b9_b11.out)
   replace B_b7:=zwl M105 B_b7 D_b7_b11
   replace B_b9:=zwl M105 B_b9 D_b9_b11
   replace B_b11:=zwb M105
   replace H:=Lib.hid (M105.out.rdM H.out N_b11.out)
   replace X:=Lib.hid (M105.out.rdM X.out N_b11.out)
   replace EW:=zwe M105 EW O_b11
   clear HSS
   have HSS : Hid (w105_.heap[b9]? = some (.cells #[.slice ca0 x.store.cells.length cc0,.slice ua0 x.store.undo.length uc0,.slice aa0 x.store.answers.length ac0,.slice pa0 x.store.past.length pc0,I x.server.gen,.slice xa0 x.server.box.length xc0,.bool x.server.busy,I x.server.now.client,I x.server.now.token,I x.server.now.call.kind,I x.server.now.call.name,I x.server.now.call.other,I x.server.now.call.n,.slice la0 x.server.plan.length lc0,I x.server.says.err,I x.server.says.n,.bool x.up,I x.pause,I x.falls,.slice ka0 x.clients.length kc0] 43 (0,0))):=B_b9.out
   refine held_norm (fun K hK=>?_); go_simp; refine hK _ ?_; clear hK K
   refine held_pure 16 rfl (by kernel_rfl) (by kernel_rfl) (by kernel_rfl) (fun _ _ _ _ h=>h) rfl HSS.out (fun K hK=>?_); go_simp; refine hK _ ?_; clear hK K
   refine held_store 17 (by kernel_rfl) rfl rfl 3 (.tmp 58) (.tmp 52) rfl b11 17 rfl [I x.pause] (rfl) B_b11.out (Nat.le_of_ble_eq_true rfl) (by kernel_rfl) (ones_of rfl) #[.slice ca0 x.store.cells.length cc0,.slice ua0 x.store.undo.length uc0,.slice aa0 x.store.answers.length ac0,.slice pa0 x.store.past.length pc0,I x.server.gen,.slice xa0 x.server.box.length xc0,.bool x.server.busy,I x.server.now.client,I x.server.now.token,I x.server.now.call.kind,I x.server.now.call.name,I x.server.now.call.other,I x.server.now.call.n,.slice la0 x.server.plan.length lc0,I x.server.says.err,I x.server.says.n,.bool x.up,I x.pause,I mk.falls,.slice ka mk.clients.length kc] ((splN_eq _ _ _ (Nat.le_of_ble_eq_true rfl)).trans rfl) (fun w106_ M106=>⟨?_,?_⟩)
   ·exact M106.out.old B_b9.out (Nat.ne_of_lt D_b9_b11.out)
   replace B_b7:=zwl M106 B_b7 D_b7_b11
   replace B_b9:=zwl M106 B_b9 D_b9_b11
   replace B_b11:=zwb M106
   replace H:=Lib.hid (M106.out.rdM H.out N_b11.out)
   replace X:=Lib.hid (M106.out.rdM X.out N_b11.out)
   replace EW:=zwe M106 EW O_b11
   clear HSS
   have HSS : Hid (w106_.heap[b9]? = some (.cells #[.slice ca0 x.store.cells.length cc0,.slice ua0 x.store.undo.length uc0,.slice aa0 x.store.answers.length ac0,.slice pa0 x.store.past.length pc0,I x.server.gen,.slice xa0 x.server.box.length xc0,.bool x.server.busy,I x.server.now.client,I x.server.now.token,I x.server.now.call.kind,I x.server.now.call.name,I x.server.now.call.other,I x.server.now.call.n,.slice la0 x.server.plan.length lc0,I x.server.says.err,I x.server.says.n,.bool x.up,I x.pause,I x.falls,.slice ka0 x.clients.length kc0] 43 (0,0))):=B_b9.out
   refine held_norm (fun K hK=>?_); go_simp; refine hK _ ?_; clear hK K
   refine held_pure 18 rfl (by kernel_rfl) (by kernel_rfl) (by kernel_rfl) (fun _ _ _ _ h=>h) rfl HSS.out (fun K hK=>?_); go_simp; refine hK _ ?_; clear hK K
   refine held_store 19 (by kernel_rfl) rfl rfl 3 (.tmp 59) (.tmp 54) rfl b11 18 rfl [I x.falls] (rfl) B_b11.out (Nat.le_of_ble_eq_true rfl) (by kernel_rfl) (ones_of rfl) #[.slice ca0 x.store.cells.length cc0,.slice ua0 x.store.undo.length uc0,.slice aa0 x.store.answers.length ac0,.slice pa0 x.store.past.length pc0,I x.server.gen,.slice xa0 x.server.box.length xc0,.bool x.server.busy,I x.server.now.client,I x.server.now.token,I x.server.now.call.kind,I x.server.now.call.name,I x.server.now.call.other,I x.server.now.call.n,.slice la0 x.server.plan.length lc0,I x.server.says.err,I x.server.says.n,.bool x.up,I x.pause,I x.falls,.slice ka mk.clients.length kc] ((splN_eq _ _ _ (Nat.le_of_ble_eq_true rfl)).trans rfl) (fun w107_ M107=>⟨?_,?_⟩)
   ·exact M107.out.old B_b9.out (Nat.ne_of_lt D_b9_b11.out)
   replace B_b7:=zwl M107 B_b7 D_b7_b11
   replace B_b9:=zwl M107 B_b9 D_b9_b11
   replace B_b11:=zwb M107
   replace H:=Lib.hid (M107.out.rdM H.out N_b11.out)
   replace X:=Lib.hid (M107.out.rdM X.out N_b11.out)
   replace EW:=zwe M107 EW O_b11
   clear HSS
   have HSS : Hid (w107_.heap[b9]? = some (.cells #[.slice ca0 x.store.cells.length cc0,.slice ua0 x.store.undo.length uc0,.slice aa0 x.store.answers.length ac0,.slice pa0 x.store.past.length pc0,I x.server.gen,.slice xa0 x.server.box.length xc0,.bool x.server.busy,I x.server.now.client,I x.server.now.token,I x.server.now.call.kind,I x.server.now.call.name,I x.server.now.call.other,I x.server.now.call.n,.slice la0 x.server.plan.length lc0,I x.server.says.err,I x.server.says.n,.bool x.up,I x.pause,I x.falls,.slice ka0 x.clients.length kc0] 43 (0,0))):=B_b9.out
   refine held_norm (fun K hK=>?_); go_simp; refine hK _ ?_; clear hK K
   refine wpAnyH_done (by kernel_rfl) ?_ _
   clear HSS
   go_wp2_with fail
   have SZ : Hid (b7 < w107_.heap.size ∧ b9 < w107_.heap.size ∧ b11 < w107_.heap.size):=⟨(Array.getElem?_eq_some_iff.1 B_b7.out).1,(Array.getElem?_eq_some_iff.1 B_b9.out).1,(Array.getElem?_eq_some_iff.1 B_b11.out).1⟩
   refine wp_region_mono_tail 8 [none,none,some (.inr (StAt (backSt mk.store))),none,none,some (.inr (StAt (backSt mk.store))),some (.inr (BoxC w107_.heap.size 30 #[.slice none 0 0,.slice none 0 0,.slice none 0 0,.slice none 0 0])),some (.inr (BoxC w107_.heap.size 30 #[.slice none 0 0,.slice none 0 0,.slice none 0 0,.slice none 0 0]))] (by kernel_rfl) (by kernel_rfl) ?_ ?_
   ·exact ⟨trivial,trivial,fun _ _ _ he h=>h.ext he,trivial,trivial,fun _ _ _ he h=>h.ext he,monoBoxC _ _ _,monoBoxC _ _ _,trivial⟩
   iterate 1 (refine wpM_p (fun K hK=>?_); go_simp; first | refine hK _ ?_ | refine ⟨(fun h=>by cases h),hK _ ?_⟩; clear hK K)
   refine wpM_q (.agg #[.slice ca mk.store.cells.length cc,.slice ua mk.store.undo.length uc,.slice aa mk.store.answers.length ac,.slice pa mk.store.past.length pc]) rfl (fun w' hw'=>run_loadM 30 (.tmp 60) rfl b7 0 rfl (blk_ext B_b7.out hw') [.slice ca mk.store.cells.length cc,.slice ua mk.store.undo.length uc,.slice aa mk.store.answers.length ac,.slice pa mk.store.past.length pc] rfl Try.underlying30 (by kernel_rfl)) ?_
   refine wpM_norm (fun K hK=>?_); go_simp; refine hK _ ?_; clear hK K
   refine wpM_l _ rfl (fun w' hw' hk=>?_) (fun v62=>?_)
   ·have hg:=stAt_of (refBack_keeps _ _ _ _ mk.store w' _ ((st_rd H.out.cells H.out.undo H.out.answers H.out.past).ext hw') GD.out.cells)
    clear hk
    unfold makes
    go_simp
    exact ⟨Ext.refl _,hg⟩
   refine wpM_norm (fun K hK=>?_); go_simp; refine hK _ ?_; clear hK K
   iterate 1 (refine wpM_p (fun K hK=>?_); go_simp; first | refine hK _ ?_ | refine ⟨(fun h=>by cases h),hK _ ?_⟩; clear hK K)
   refine wpM_q (.agg #[.slice ca0 x.store.cells.length cc0,.slice ua0 x.store.undo.length uc0,.slice aa0 x.store.answers.length ac0,.slice pa0 x.store.past.length pc0]) rfl (fun w' hw'=>run_loadM 30 (.tmp 63) rfl b9 0 rfl (blk_ext B_b9.out hw') [.slice ca0 x.store.cells.length cc0,.slice ua0 x.store.undo.length uc0,.slice aa0 x.store.answers.length ac0,.slice pa0 x.store.past.length pc0] rfl Try.underlying30 (by kernel_rfl)) ?_
   refine wpM_norm (fun K hK=>?_); go_simp; refine hK _ ?_; clear hK K
   refine wpM_l _ rfl (fun w' hw' hk=>?_) (fun v65=>?_)
   ·have hg:=stAt_of (refBack_keeps _ _ _ _ x.store w' _ ((st_rd X.out.cells X.out.undo X.out.answers X.out.past).ext hw') GX.out.cells)
    rw [HBK.out] at hg
    clear hk
    unfold makes
    go_simp
    exact ⟨Ext.refl _,hg⟩
   refine wpM_norm (fun K hK=>?_); go_simp; refine hK _ ?_; clear hK K
   refine wpM_l _ rfl (fun w' hw' hk=>?_) (fun v12=>?_)
   ·clear hk
    unfold makes
    go_simp
    exact ⟨(Ext.refl _).alloc _,boxC_new hw'.size⟩
   refine wpM_norm (fun K hK=>?_); go_simp; refine hK _ ?_; clear hK K
   refine wpM_l _ rfl (fun w' hw' hk=>?_) (fun v13=>?_)
   ·clear hk
    unfold makes
    go_simp
    exact ⟨(Ext.refl _).alloc _,boxC_new hw'.size⟩
   refine wpM_norm (fun K hK=>?_); go_simp; refine hK _ ?_; clear hK K
   refine wpM_nil ?_
   intro w5 e5 hF
   obtain ⟨c1,u1,a1,p1,rfl,s1⟩ : StAt (backSt mk.store) v62 w5:=hF 62
   obtain ⟨c2,u2,a2,p2,rfl,s2⟩ : StAt (backSt mk.store) v65 w5:=hF 65
   obtain ⟨b12,rfl,hb12,hB12⟩ : BoxC w107_.heap.size 30 #[.slice none 0 0,.slice none 0 0,.slice none 0 0,.slice none 0 0] v12 w5:=hF 12
   obtain ⟨b13,rfl,hb13,hB13⟩ : BoxC w107_.heap.size 30 #[.slice none 0 0,.slice none 0 0,.slice none 0 0,.slice none 0 0] v13 w5:=hF 13
   clear hF
   obtain ⟨D,HD⟩ : ∃ D : Nat → Prop,Hid (∀ k,D k ↔ (k ≠ b12 ∧ k ≠ b13)):=⟨_,fun _=>Iff.rfl⟩
   have hD : ∀ b,¬ D b → ∃ t,w5.heap[b]? = some (.cells #[.slice none 0 0,.slice none 0 0,.slice none 0 0,.slice none 0 0] t (0,0)):=fun b hb=>by
    by_cases q : b = b12
    ·subst q; exact ⟨_,hB12⟩
    ·by_cases q2 : b = b13
     ·subst q2; exact ⟨_,hB13⟩
     ·exact absurd ((HD.out b).2 ⟨q,q2⟩) hb
   have S1:=Lib.hid (st_off s1 hD)
   have S2:=Lib.hid (st_off s2 hD)
   clear s1 s2 hD
   replace H:=Lib.hid (H.out.widen (B:=D) fun k hk _=>(HD.out k).2 ⟨by omega,by omega⟩)
   replace X:=Lib.hid (X.out.widen (B:=D) fun k hk _=>(HD.out k).2 ⟨by omega,by omega⟩)
   have D_b7_b12 : Hid (b7 < b12):=by unfold Hid; have q:=SZ.out; omega
   have D_b7_b13 : Hid (b7 < b13):=by unfold Hid; have q:=SZ.out; omega
   have D_b9_b12 : Hid (b9 < b12):=by unfold Hid; have q:=SZ.out; omega
   have D_b9_b13 : Hid (b9 < b13):=by unfold Hid; have q:=SZ.out; omega
   have D_b11_b12 : Hid (b11 < b12):=by unfold Hid; have q:=SZ.out; omega
   have D_b11_b13 : Hid (b11 < b13):=by unfold Hid; have q:=SZ.out; omega
   replace B_b7:=zbx B_b7 e5
   replace B_b9:=zbx B_b9 e5
   replace B_b11:=zbx B_b11 e5
   replace H:=Lib.hid (H.out.ext e5)
   replace X:=Lib.hid (X.out.ext e5)
   replace EW:=Lib.hid (EW.out.trans e5)
   have O_b12 : Hid (w.heap.size ≤ b12):=by unfold Hid; have q:=O_b11.out; have q2:=D_b11_b12.out; omega
   have B_b12:=Lib.hid hB12
   have O_b13 : Hid (w.heap.size ≤ b13):=by unfold Hid; have q:=O_b11.out; have q2:=D_b11_b13.out; omega
   have B_b13:=Lib.hid hB13
   have N_b12 : Hid (¬ D b12):=fun h=>((HD.out _).1 h).1 rfl
   have N_b13 : Hid (¬ D b13):=fun h=>((HD.out _).1 h).2 rfl
   clear e5 hb12 hb13 hB12 hB13
   obtain ⟨i1,i2,i3,i4⟩:=st_iff.1 S1.out.out
   obtain ⟨ca1,cc1,rfl⟩:=row_slice i1
   obtain ⟨ua1,uc1,rfl⟩:=row_slice i2
   obtain ⟨aa1,ac1,rfl⟩:=rowOf_slice i3
   obtain ⟨pa1,pc1,rfl⟩:=rowOf_slice i4
   clear i1 i2 i3 i4
   obtain ⟨i1,i2,i3,i4⟩:=st_iff.1 S2.out.out
   obtain ⟨ca2,cc2,rfl⟩:=row_slice i1
   obtain ⟨ua2,uc2,rfl⟩:=row_slice i2
   obtain ⟨aa2,ac2,rfl⟩:=rowOf_slice i3
   obtain ⟨pa2,pc2,rfl⟩:=rowOf_slice i4
   clear i1 i2 i3 i4
   by_cases hee : b12 = b13
   case pos =>
    subst hee
    clear B_b13 N_b13 O_b13 D_b7_b13 D_b9_b13 D_b11_b13
    refine stop_store ?_
    unfold Hid
    refine wpList_storeW rfl 30 (.tmp 12) (.tmp 62) rfl b12 rfl [.slice ca1 (backSt mk.store).cells.length cc1,.slice ua1 (backSt mk.store).undo.length uc1,.slice aa1 (backSt mk.store).answers.length ac1,.slice pa1 (backSt mk.store).past.length pc1] (rfl) B_b12 rfl (by kernel_rfl) rfl (fun w108_ M108=>?_)
    replace B_b7:=zwl M108 B_b7 D_b7_b12
    replace B_b9:=zwl M108 B_b9 D_b9_b12
    replace B_b11:=zwl M108 B_b11 D_b11_b12
    replace B_b12:=zwb M108
    replace H:=Lib.hid (M108.out.rdM H.out N_b12.out)
    replace X:=Lib.hid (M108.out.rdM X.out N_b12.out)
    replace S1:=zwr M108 S1 N_b12
    replace S2:=zwr M108 S2 N_b12
    replace EW:=zwe M108 EW O_b12
    go_wp2_with ((with_reducible refine zst (L:=[43,40,30,67]) ?_ ?_); exact rfl)
    unfold Hid
    refine wpList_storeW rfl 30 (.tmp 13) (.tmp 65) rfl b12 rfl [.slice ca2 (backSt mk.store).cells.length cc2,.slice ua2 (backSt mk.store).undo.length uc2,.slice aa2 (backSt mk.store).answers.length ac2,.slice pa2 (backSt mk.store).past.length pc2] (rfl) B_b12 rfl (by kernel_rfl) rfl (fun w109_ M109=>?_)
    replace B_b7:=zwl M109 B_b7 D_b7_b12
    replace B_b9:=zwl M109 B_b9 D_b9_b12
    replace B_b11:=zwl M109 B_b11 D_b11_b12
    replace B_b12:=zwb M109
    replace H:=Lib.hid (M109.out.rdM H.out N_b12.out)
    replace X:=Lib.hid (M109.out.rdM X.out N_b12.out)
    replace S1:=zwr M109 S1 N_b12
    replace S2:=zwr M109 S2 N_b12
    replace EW:=zwe M109 EW O_b12
    go_wp2_with ((with_reducible refine zst (L:=[43,40,30,67]) ?_ ?_); exact rfl)
    unfold Hid
    refine wpList_loadW rfl 43 (.tmp 9) rfl b9 rfl B_b9 Try.underlying43 (by kernel_rfl) (fun v66 H_v66=>?_)
    go_wp2_with ((with_reducible refine zst (L:=[43,40,30,67]) ?_ ?_); exact rfl)
    unfold Hid
    refine wpList_loadW rfl 43 (.tmp 11) rfl b11 rfl B_b11 Try.underlying43 (by kernel_rfl) (fun v67 H_v67=>?_)
    go_wp2_with fail
    rw [H_v66.out,H_v67.out]
    clear H_v66 H_v67
    refine Calls.exts (sameMachine_eq x _ _ _ _ _ _ _ _ _ _ _ _ _ (.slice ka mk.clients.length kc) w109_ X.out ⟨X.out.cells,X.out.undo,X.out.answers,X.out.past,X.out.box,X.out.plan,by rw [HCL.out]; exact H.out.clients⟩) (fun w6 e6=>?_)
    replace B_b7:=zbx B_b7 e6
    replace B_b9:=zbx B_b9 e6
    replace B_b11:=zbx B_b11 e6
    replace B_b12:=zbx B_b12 e6
    replace H:=Lib.hid (H.out.ext e6)
    replace X:=Lib.hid (X.out.ext e6)
    replace S1:=zrx S1 e6
    replace S2:=zrx S2 e6
    replace EW:=Lib.hid (EW.out.trans e6)
    clear e6
    go_wp2_with ((with_reducible refine zst (L:=[43,40,30,67]) ?_ ?_); exact rfl)
    unfold Hid
    refine wpList_loadG rfl 30 (.tmp 12) rfl b12 0 rfl B_b12 [.slice ca2 (backSt mk.store).cells.length cc2,.slice ua2 (backSt mk.store).undo.length uc2,.slice aa2 (backSt mk.store).answers.length ac2,.slice pa2 (backSt mk.store).past.length pc2] rfl Try.underlying30 (by kernel_rfl) (fun v70 H_v70=>?_)
    go_wp2_with ((with_reducible refine zst (L:=[43,40,30,67]) ?_ ?_); exact rfl)
    unfold Hid
    refine wpList_loadG rfl 30 (.tmp 13) rfl b12 0 rfl B_b12 [.slice ca2 (backSt mk.store).cells.length cc2,.slice ua2 (backSt mk.store).undo.length uc2,.slice aa2 (backSt mk.store).answers.length ac2,.slice pa2 (backSt mk.store).past.length pc2] rfl Try.underlying30 (by kernel_rfl) (fun v71 H_v71=>?_)
    go_wp2_with fail
    rw [H_v70.out,H_v71.out]
    clear H_v70 H_v71
    refine Calls.exts (sameStore_eq _ _ _ _ _ _ _ _ (backSt mk.store) w6 S2.out.out S2.out.out) (fun w7 e7=>?_)
    replace B_b7:=zbx B_b7 e7
    replace B_b9:=zbx B_b9 e7
    replace B_b11:=zbx B_b11 e7
    replace B_b12:=zbx B_b12 e7
    replace H:=Lib.hid (H.out.ext e7)
    replace X:=Lib.hid (X.out.ext e7)
    replace S1:=zrx S1 e7
    replace S2:=zrx S2 e7
    replace EW:=Lib.hid (EW.out.trans e7)
    clear e7
    go_wp2
    go_ret
    exact ⟨rfl,EW.out⟩
   have NE:=Lib.hid hee
   clear hee
   refine stop_store ?_
   unfold Hid
   refine wpList_storeW rfl 30 (.tmp 12) (.tmp 62) rfl b12 rfl [.slice ca1 (backSt mk.store).cells.length cc1,.slice ua1 (backSt mk.store).undo.length uc1,.slice aa1 (backSt mk.store).answers.length ac1,.slice pa1 (backSt mk.store).past.length pc1] (rfl) B_b12 rfl (by kernel_rfl) rfl (fun w108_ M108=>?_)
   replace B_b7:=zwl M108 B_b7 D_b7_b12
   replace B_b9:=zwl M108 B_b9 D_b9_b12
   replace B_b11:=zwl M108 B_b11 D_b11_b12
   replace B_b12:=zwb M108
   replace B_b13:=Lib.hid (M108.out.old B_b13.out (Ne.symm NE.out))
   replace H:=Lib.hid (M108.out.rdM H.out N_b12.out)
   replace X:=Lib.hid (M108.out.rdM X.out N_b12.out)
   replace S1:=zwr M108 S1 N_b12
   replace S2:=zwr M108 S2 N_b12
   replace EW:=zwe M108 EW O_b12
   go_wp2_with ((with_reducible refine zst (L:=[43,40,30,67]) ?_ ?_); exact rfl)
   unfold Hid
   refine wpList_storeW rfl 30 (.tmp 13) (.tmp 65) rfl b13 rfl [.slice ca2 (backSt mk.store).cells.length cc2,.slice ua2 (backSt mk.store).undo.length uc2,.slice aa2 (backSt mk.store).answers.length ac2,.slice pa2 (backSt mk.store).past.length pc2] (rfl) B_b13 rfl (by kernel_rfl) rfl (fun w109_ M109=>?_)
   replace B_b7:=zwl M109 B_b7 D_b7_b13
   replace B_b9:=zwl M109 B_b9 D_b9_b13
   replace B_b11:=zwl M109 B_b11 D_b11_b13
   replace B_b12:=Lib.hid (M109.out.old B_b12.out NE.out)
   replace B_b13:=zwb M109
   replace H:=Lib.hid (M109.out.rdM H.out N_b13.out)
   replace X:=Lib.hid (M109.out.rdM X.out N_b13.out)
   replace S1:=zwr M109 S1 N_b13
   replace S2:=zwr M109 S2 N_b13
   replace EW:=zwe M109 EW O_b13
   go_wp2_with ((with_reducible refine zst (L:=[43,40,30,67]) ?_ ?_); exact rfl)
   unfold Hid
   refine wpList_loadW rfl 43 (.tmp 9) rfl b9 rfl B_b9 Try.underlying43 (by kernel_rfl) (fun v66 H_v66=>?_)
   go_wp2_with ((with_reducible refine zst (L:=[43,40,30,67]) ?_ ?_); exact rfl)
   unfold Hid
   refine wpList_loadW rfl 43 (.tmp 11) rfl b11 rfl B_b11 Try.underlying43 (by kernel_rfl) (fun v67 H_v67=>?_)
   go_wp2_with fail
   rw [H_v66.out,H_v67.out]
   clear H_v66 H_v67
   refine Calls.exts (sameMachine_eq x _ _ _ _ _ _ _ _ _ _ _ _ _ (.slice ka mk.clients.length kc) w109_ X.out ⟨X.out.cells,X.out.undo,X.out.answers,X.out.past,X.out.box,X.out.plan,by rw [HCL.out]; exact H.out.clients⟩) (fun w6 e6=>?_)
   replace B_b7:=zbx B_b7 e6
   replace B_b9:=zbx B_b9 e6
   replace B_b11:=zbx B_b11 e6
   replace B_b12:=zbx B_b12 e6
   replace B_b13:=zbx B_b13 e6
   replace H:=Lib.hid (H.out.ext e6)
   replace X:=Lib.hid (X.out.ext e6)
   replace S1:=zrx S1 e6
   replace S2:=zrx S2 e6
   replace EW:=Lib.hid (EW.out.trans e6)
   clear e6
   go_wp2_with ((with_reducible refine zst (L:=[43,40,30,67]) ?_ ?_); exact rfl)
   unfold Hid
   refine wpList_loadG rfl 30 (.tmp 12) rfl b12 0 rfl B_b12 [.slice ca1 (backSt mk.store).cells.length cc1,.slice ua1 (backSt mk.store).undo.length uc1,.slice aa1 (backSt mk.store).answers.length ac1,.slice pa1 (backSt mk.store).past.length pc1] rfl Try.underlying30 (by kernel_rfl) (fun v70 H_v70=>?_)
   go_wp2_with ((with_reducible refine zst (L:=[43,40,30,67]) ?_ ?_); exact rfl)
   unfold Hid
   refine wpList_loadG rfl 30 (.tmp 13) rfl b13 0 rfl B_b13 [.slice ca2 (backSt mk.store).cells.length cc2,.slice ua2 (backSt mk.store).undo.length uc2,.slice aa2 (backSt mk.store).answers.length ac2,.slice pa2 (backSt mk.store).past.length pc2] rfl Try.underlying30 (by kernel_rfl) (fun v71 H_v71=>?_)
   go_wp2_with fail
   rw [H_v70.out,H_v71.out]
   clear H_v70 H_v71
   refine Calls.exts (sameStore_eq _ _ _ _ _ _ _ _ (backSt mk.store) w6 S1.out.out S2.out.out) (fun w7 e7=>?_)
   replace B_b7:=zbx B_b7 e7
   replace B_b9:=zbx B_b9 e7
   replace B_b11:=zbx B_b11 e7
   replace B_b12:=zbx B_b12 e7
   replace B_b13:=zbx B_b13 e7
   replace H:=Lib.hid (H.out.ext e7)
   replace X:=Lib.hid (X.out.ext e7)
   replace S1:=zrx S1 e7
   replace S2:=zrx S2 e7
   replace EW:=Lib.hid (EW.out.trans e7)
   clear e7
   go_wp2
   go_ret
   exact ⟨rfl,EW.out⟩

end Go.Proofs.Ytdmipnnfoolelad
