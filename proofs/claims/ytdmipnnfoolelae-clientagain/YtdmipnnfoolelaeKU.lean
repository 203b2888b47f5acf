/- Texts of the proof, merged: C5. -/
import Derived.Test.YtdmipnnfoolelaeKT
import Derived.Test.YtdmipnnfoolelaeKO

namespace Go.Proofs.Ytdmipnnfoolelae
open Go.RowKit Go.Mk

theorem go_done {xl : List Cl} {xat : Int} (xs : Bool) (xg : Int) (xgot : List Rp) (me gen : Int) (up : Bool) (h : (xl.length : Int) ≤ xat) : goCn ⟨xl,xat,xs,xg,[],xgot⟩ me gen up = (⟨xl,xat,xs,xg,[],xgot⟩,[],11):=by
 unfold goCn
 dsimp only
 rw [if_pos h]
theorem go_dead {xl : List Cl} {xat : Int} (xs : Bool) (xg : Int) (xgot : List Rp) (me gen : Int) (h : ¬ (xl.length : Int) ≤ xat) : goCn ⟨xl,xat,xs,xg,[],xgot⟩ me gen false = (⟨xl,xat,xs,xg,[],xgot⟩,[],10):=by
 unfold goCn
 dsimp only
 rw [if_neg h,if_pos (by simp)]
theorem go_wait {xl : List Cl} {xat : Int} (xgot : List Rp) (me gen : Int) (h : ¬ (xl.length : Int) ≤ xat) : goCn ⟨xl,xat,true,gen,[],xgot⟩ me gen true = (⟨xl,xat,true,gen,[],xgot⟩,[],12):=by
 unfold goCn
 dsimp only
 rw [if_neg h,if_neg (by simp),if_pos ⟨rfl,rfl⟩]
theorem go_send {xl : List Cl} {xat : Int} (xs : Bool) (xg : Int) (xgot : List Rp) (me gen : Int) (h : ¬ (xl.length : Int) ≤ xat) (hs : ¬ (xs = true ∧ xg = gen)) : goCn ⟨xl,xat,xs,xg,[],xgot⟩ me gen true = (⟨xl,xat,true,gen,[],xgot⟩,reqB ⟨me,xat,xl.getD xat.toNat ⟨0,0,0,0⟩⟩,0):=by
 unfold goCn
 dsimp only
 rw [if_neg h,if_neg (by simp),if_neg hs]
theorem good_like {xl : List Cl} {xat : Int} {xs : Bool} {xg : Int} {xgot : List Rp} (h : GoodC ⟨xl,xat,xs,xg,[],xgot⟩) (s : Bool) (g : Int) : GoodC ⟨xl,xat,s,g,[],xgot⟩:=⟨h.at0,h.at1,h.calls,h.got,h.box,h.bytes⟩

set_option maxRecDepth 100000 in
set_option maxHeartbeats 8000000 in
theorem ClientAgain_of (hCome : ComeOk) (hGo : GoOk) (v0 v1 : Value) (l : List (List Cl)) (steps : List (Int × Int)) (n gen other : Int) (w : World) (h0 : RowOf 1 elCls w v0 l) (h1 : Writes w v1 steps) :
  Gives Try.prog 4 #[v0,v1,I n,I gen,I other] w fun r _=>r = .bool true:=by
 refine gives_exts ?_
 have HV:=Lib.hid h0
 have HSTP:=Lib.hid h1
 obtain ⟨za,zc,rfl⟩:=rowOf_slice h0
 obtain ⟨ta,tc,rfl⟩:=row_slice h1
 have HCO:=Lib.hid hCome
 have HGO:=Lib.hid hGo
 clear h0 h1 hCome hGo
 have EW:=Lib.hid (Ext.refl w)
 go_enter Try.func4,Try.ntmps4
 go_wp2_with fail
 refine (aliveClient_any HCO.out HGO.out w).to fun r wl el hr=>?_
 subst hr
 replace EW:=Lib.hid (EW.out.trans el)
 clear el
 go_wp2_with fail
 refine (refRight_any _ l wl (HV.out.ext monoCls' EW.out)).mono ?_
 rintro e wr0 ⟨bR,rfl,hbR,e0⟩
 replace EW:=Lib.hid (EW.out.trans e0)
 clear e0
 cases bR
 case false =>
  go_wp2
  go_ret
  exact ⟨rfl,EW.out⟩
 have HRL:=Lib.hid (hbR.1 rfl)
 clear hbR
 by_cases hge : gen = other
 case pos =>
  go_wp2
  go_ret
  exact ⟨rfl,EW.out⟩
 go_wp2_with fail
 refine (refPlay_keeps _ _ l steps wr0 (fun _=>True) HRL.out (Rd.widen (Rd.of (rowOf_heap heapCls _ _) (HV.out.ext monoCls' EW.out)) (fun _ _ _=>trivial)) (HSTP.out.ext EW.out)).to fun r wp ep hr=>?_
 obtain ⟨cs,es,rfl,hm,hes⟩:=rd_play hr
 obtain ⟨mk,hmk⟩ : ∃ mk,playM (newMc l) (steps.take 400) = mk:=⟨_,rfl⟩
 have hgc:=good_play HRL.out steps
 have hcn : (playM (newMc l) (steps.take 400)).clients.length ≤ 3:=by
  obtain ⟨ks,bz,hinv⟩:=inv_all HRL.out (steps.take 400)
  rw [hinv.nc]
  exact HRL.out.1
 rw [hmk] at hm hgc hcn
 obtain ⟨c,u,a,p,box,plan,cl,rfl,hM⟩:=rd_mc hm
 obtain ⟨ca,cc,ua,uc,aa,ac,pa,pc,xa,xc,la,lc,ka,kc,rfl,rfl,rfl,rfl,rfl,rfl,rfl⟩:=hM.slices
 obtain ⟨B,HB0⟩ : ∃ B : Nat → Prop,Hid (∀ k,B k ↔ True):=⟨_,fun _=>Iff.rfl⟩
 have H:=Lib.hid (hM.widen (B:=B) (fun k _ _=>(HB0.out k).2 trivial))
 have GC:=Lib.hid hgc
 have HN3:=Lib.hid hcn
 obtain ⟨esa,esc,rfl⟩:=row_slice hes.out
 clear hM hm hr hes hmk hgc hcn HV HSTP
 replace EW:=Lib.hid (EW.out.trans ep)
 clear ep
 have HGE:=Lib.hid hge
 clear hge
 go_wp2_with ((with_reducible refine zst (L:=[44,41,31,51]) ?_ ?_); exact rfl)
 unfold Hid
 refine wpList_allocB rfl 44 #[.slice none 0 0,.slice none 0 0,.slice none 0 0,.slice none 0 0,I 0,.slice none 0 0,.bool false,I 0,I 0,I 0,I 0,I 0,I 0,.slice none 0 0,I 0,I 0,.bool false,I 0,I 0,.slice none 0 0] (by kernel_rfl) (fun b11 w1_ M1=>?_)
 obtain ⟨B1,HB1⟩ : ∃ X : Nat → Prop,Hid (∀ k,X k ↔ (B k ∧ k ≠ b11)):=⟨_,fun _=>Iff.rfl⟩
 replace H:=Lib.hid (H.out.widen (B:=B1) (fun k hk h=>(HB1.out k).2 ⟨h,by have q2:=M1.out.at_; omega⟩))
 have N_b11 : Hid (¬ B1 b11):=fun h=>((HB1.out _).1 h).2 rfl
 have I_B1 : Hid (∀ k,B1 k → B k):=fun k h=>((HB1.out k).1 h).1
 have O_b11 : Hid (w.heap.size ≤ b11):=by unfold Hid; have q2:=M1.out.at_; have q3:=EW.out.size; omega
 have B_b11:=zmb M1
 replace H:=Lib.hid (H.out.ext M1.out.ext)
 replace EW:=zet EW M1
 go_wp2_with ((with_reducible refine zst (L:=[44,41,31,51]) ?_ ?_); exact rfl)
 unfold Hid
 refine wpList_storeW rfl 44 (.tmp 11) (.tmp 40) rfl b11 rfl [.slice ca mk.store.cells.length cc,.slice ua mk.store.undo.length uc,.slice aa mk.store.answers.length ac,.slice pa mk.store.past.length pc,I mk.server.gen,.slice xa mk.server.box.length xc,.bool mk.server.busy,I mk.server.now.client,I mk.server.now.token,I mk.server.now.call.kind,I mk.server.now.call.name,I mk.server.now.call.other,I mk.server.now.call.n,.slice la mk.server.plan.length lc,I mk.server.says.err,I mk.server.says.n,.bool mk.up,I mk.pause,I mk.falls,.slice ka mk.clients.length kc] (rfl) B_b11 rfl (by kernel_rfl) rfl (fun w2_ M2=>?_)
 replace B_b11:=zwb M2
 replace H:=Lib.hid (M2.out.rdM H.out N_b11.out)
 replace EW:=zwe M2 EW O_b11
 by_cases hn0 : n < 0
 case pos =>
  go_wp2
  go_ret
  exact ⟨rfl,EW.out⟩
 have c19:=cell_of (i:=19) B_b11.out rfl
 by_cases hn1 : (mk.clients.length : Int) ≤ n
 case pos =>
  go_wp2
  go_ret
  exact ⟨rfl,EW.out⟩
 obtain ⟨j,rfl⟩ : ∃ j : Nat,n = (j : Int):=⟨n.toNat,by omega⟩
 have hlt : j < mk.clients.length:=by omega
 obtain ⟨css,hcs⟩:=rd_rowOf2 (by decide) H.out.clients
 obtain ⟨c0,x,hc0,hx,-⟩:=elem_at hcs.left.out hlt
 obtain ⟨kcalls,kbox,kgot,rfl,q1,q2,q3⟩:=rd_cn (rd_elem hcs.left hc0 hx)
 have GX:=Lib.hid (GC.out x (List.mem_of_getElem? hx))
 obtain ⟨kb,ko,hka⟩ : ∃ b o,ka = some ⟨b,o,none⟩:=by
  obtain ⟨_,_,e1,_,_,_,hf⟩:=H.out.clients.out.form (by decide)
  simp only [Value.slice.injEq,true_and] at e1
  obtain ⟨rfl,rfl⟩:=e1
  obtain ⟨b,o,_,e2,_⟩:=hf _ _ hx
  exact ⟨b,o,e2⟩
 subst hka
 have hrg:=row_cells (by decide) hcs.right.out hcs.left.out.sizes hc0
 have HXE:=Lib.hid hx
 obtain ⟨xl,xat,xs,xg,xb,xgot⟩:=x
 obtain ⟨ka0,kc0,rfl⟩:=rowOf_slice q1.out
 obtain ⟨kx0,ky0,rfl⟩:=rowOf_slice q2.out
 obtain ⟨kg0,kh0,rfl⟩:=rowOf_slice q3.out
 simp only [] at *
 have hc4:=hrg 4 _ rfl
 have HRG:=Lib.hid hrg
 have Q1:=Lib.hid q1
 have Q2:=Lib.hid q2
 have Q3:=Lib.hid q3
 have hli : (j : Int) < (mk.clients.length : Int):=by omega
 have hl0 : (0 : Int) ≤ (j : Int):=by omega
 have HLT : Hid (j < 3):=by unfold Hid; have q:=HN3.out; omega
 clear hcs hc0 hx q1 q2 q3 hrg hn0 hn1 hlt
 by_cases hbx : 0 < xb.length
 case pos =>
  have hbi : (0 : Int) < (xb.length : Int):=by omega
  go_wp2
  go_ret
  exact ⟨rfl,EW.out⟩
 obtain rfl : xb = []:=List.eq_nil_of_length_eq_zero (by omega)
 simp only [List.length_nil] at *
 go_wp2_with ((with_reducible refine zst (L:=[44,41,31,51]) ?_ ?_); exact rfl)
 unfold Hid
 clear hli hl0 hc4 c19 hbx
 refine wpList_loadR rfl 51 (.tmp 64) rfl kb (ko + j * 6) rfl [.slice ka0 xl.length kc0,I xat,.bool xs,I xg,.slice kx0 0 ky0,.slice kg0 xgot.length kh0] HRG.out Try.underlying51 (by kernel_rfl) (fun v65 H_v65=>?_)
 go_wp2_with ((with_reducible refine zst (L:=[44,41,31,51]) ?_ ?_); exact rfl)
 unfold Hid
 refine wpList_allocB rfl 51 #[.slice none 0 0,I 0,.bool false,I 0,.slice none 0 0,.slice none 0 0] (by kernel_rfl) (fun b13 w3_ M3=>?_)
 have D_b11_b13:=zld B_b11 M3
 obtain ⟨B11,HB11⟩ : ∃ X : Nat → Prop,Hid (∀ k,X k ↔ (B1 k ∧ k ≠ b13)):=⟨_,fun _=>Iff.rfl⟩
 replace H:=Lib.hid (H.out.widen (B:=B11) (fun k hk h=>(HB11.out k).2 ⟨h,by have q2:=M3.out.at_; omega⟩))
 replace Q1:=zmd HB11 M3 Q1
 replace Q2:=zmd HB11 M3 Q2
 replace Q3:=zmd HB11 M3 Q3
 replace N_b11:=znw HB11 N_b11
 have N_b13 : Hid (¬ B11 b13):=fun h=>((HB11.out _).1 h).2 rfl
 have I_B11 : Hid (∀ k,B11 k → B1 k):=fun k h=>((HB11.out k).1 h).1
 have O_b13 : Hid (w.heap.size ≤ b13):=by unfold Hid; have q2:=M3.out.at_; have q3:=EW.out.size; omega
 replace B_b11:=zmo M3 B_b11
 have B_b13:=zmb M3
 replace H:=Lib.hid (H.out.ext M3.out.ext)
 replace Q1:=zme M3 Q1
 replace Q2:=zme M3 Q2
 replace Q3:=zme M3 Q3
 replace EW:=zet EW M3
 go_wp2_with ((with_reducible refine zst (L:=[44,41,31,51]) ?_ ?_); exact rfl)
 unfold Hid
 refine wpList_storeW rfl 51 (.tmp 13) (.tmp 65) rfl b13 rfl _ (zcv H_v65) B_b13 rfl (by kernel_rfl) rfl (fun w4_ M4=>?_)
 replace B_b11:=zwl M4 B_b11 D_b11_b13
 replace B_b13:=zwb M4
 replace H:=Lib.hid (M4.out.rdM H.out N_b13.out)
 replace Q1:=zwr M4 Q1 N_b13
 replace Q2:=zwr M4 Q2 N_b13
 replace Q3:=zwr M4 Q3 N_b13
 replace EW:=zwe M4 EW O_b13
 go_wp2_with ((with_reducible refine zst (L:=[44,41,31,51]) ?_ ?_); exact rfl)
 unfold Hid
 refine wpList_storeP rfl 4 (.tmp 66) (.const (.bool false)) rfl b13 2 rfl [.bool false] (rfl) B_b13 rfl (by kernel_rfl) rfl [.slice ka0 xl.length kc0,I xat,.bool false,I xg,.slice kx0 0 ky0,.slice kg0 xgot.length kh0] rfl (fun w5_ M5=>?_)
 replace B_b11:=zwl M5 B_b11 D_b11_b13
 replace B_b13:=zwb M5
 replace H:=Lib.hid (M5.out.rdM H.out N_b13.out)
 replace Q1:=zwr M5 Q1 N_b13
 replace Q2:=zwr M5 Q2 N_b13
 replace Q3:=zwr M5 Q3 N_b13
 replace EW:=zwe M5 EW O_b13
 go_wp2_with ((with_reducible refine zst (L:=[44,41,31,51]) ?_ ?_); exact rfl)
 unfold Hid
 by_cases hat : (xl.length : Int) ≤ xat
 case pos =>
  refine wpList_loadW rfl 51 (.tmp 13) rfl b13 rfl B_b13 Try.underlying51 (by kernel_rfl) (fun v68 H_v68=>?_)
  go_wp2_with fail
  rw [H_v68.out]
  clear H_v68
  obtain ⟨G1,HG1⟩ : ∃ X : Nat → Prop,Hid (∀ k,X k ↔ (B11 k ∨ w5_.heap.size ≤ k)):=⟨_,fun _=>Iff.rfl⟩
  replace H:=Lib.hid (H.out.widen (B:=G1) fun k _ h=>(HG1.out k).2 (.inl h))
  replace Q1:=Lib.hid (Q1.out.widen (B:=G1) fun k _ h=>(HG1.out k).2 (.inl h))
  replace Q2:=Lib.hid (Q2.out.widen (B:=G1) fun k _ h=>(HG1.out k).2 (.inl h))
  replace Q3:=Lib.hid (Q3.out.widen (B:=G1) fun k _ h=>(HG1.out k).2 (.inl h))
  replace N_b11 : Hid (¬ G1 b11):=zgrC HG1 N_b11 B_b11
  replace N_b13 : Hid (¬ G1 b13):=zgrC HG1 N_b13 B_b13
  refine (HGO.out ⟨xl,xat,false,xg,[],xgot⟩ _ _ _ (j : Int) gen true w5_ G1 Q1.out Q2.out Q3.out (good_like GX.out.1 _ _) (by omega) (by have q:=HLT.out; omega)).to fun r wg1 eg hr=>?_
  rw [go_done false xg xgot (j : Int) gen true hat] at hr
  obtain ⟨cs,bv,rfl,hcs,hbv⟩:=rd_tup3 hr
  obtain ⟨x1,x2,x3,rfl,r1,r2,r3⟩:=rd_cn hcs
  obtain ⟨ka1,kc1,q1⟩:=rowOf_slice r1.out
  replace q1 : x1 = .slice ka1 xl.length kc1:=q1
  obtain ⟨kx1,ky1,q2⟩:=rowOf_slice r2.out
  replace q2 : x2 = .slice kx1 0 ky1:=q2
  obtain ⟨kg1,kh1,q3⟩:=rowOf_slice r3.out
  replace q3 : x3 = .slice kg1 xgot.length kh1:=q3
  subst q1 q2 q3
  obtain ⟨pa1,pc1,qb⟩:=row_slice hbv.out
  replace qb : bv = .slice pa1 0 pc1:=qb
  subst qb
  have hin : ∀ k,k < wg1.heap.size → (G1 k ∨ w5_.heap.size ≤ k) → G1 k:=fun k _ h=>(HG1.out k).2 (by rcases h with h | h; exact (HG1.out k).1 h; exact .inr h)
  have T1:=Lib.hid (hcs.widen hin)
  have Z1:=Lib.hid (hbv.widen hin)
  clear hr hcs hbv r1 r2 r3 hin
  replace B_b11:=zbx B_b11 eg
  replace B_b13:=zbx B_b13 eg
  replace H:=Lib.hid (H.out.ext eg)
  replace Q1:=zrx Q1 eg
  replace Q2:=zrx Q2 eg
  replace Q3:=zrx Q3 eg
  replace EW:=Lib.hid (EW.out.trans eg)
  clear eg
  go_wp2_with ((with_reducible refine zst (L:=[44,41,31,51]) ?_ ?_); exact rfl)
  unfold Hid
  refine wpList_allocB rfl 51 #[.slice none 0 0,I 0,.bool false,I 0,.slice none 0 0,.slice none 0 0] (by kernel_rfl) (fun b14 w6_ M6=>?_)
  have D_b11_b14:=zld B_b11 M6
  have D_b13_b14:=zld B_b13 M6
  obtain ⟨G11,HG11⟩ : ∃ X : Nat → Prop,Hid (∀ k,X k ↔ (G1 k ∧ k ≠ b14)):=⟨_,fun _=>Iff.rfl⟩
  replace H:=Lib.hid (H.out.widen (B:=G11) (fun k hk h=>(HG11.out k).2 ⟨h,by have q2:=M6.out.at_; omega⟩))
  replace Q1:=zmd HG11 M6 Q1
  replace Q2:=zmd HG11 M6 Q2
  replace Q3:=zmd HG11 M6 Q3
  replace T1:=zmd HG11 M6 T1
  replace Z1:=zmd HG11 M6 Z1
  replace N_b11:=znw HG11 N_b11
  replace N_b13:=znw HG11 N_b13
  have N_b14 : Hid (¬ G11 b14):=fun h=>((HG11.out _).1 h).2 rfl
  have I_G11 : Hid (∀ k,G11 k → G1 k):=fun k h=>((HG11.out k).1 h).1
  have O_b14 : Hid (w.heap.size ≤ b14):=by unfold Hid; have q2:=M6.out.at_; have q3:=EW.out.size; omega
  replace B_b11:=zmo M6 B_b11
  replace B_b13:=zmo M6 B_b13
  have B_b14:=zmb M6
  replace H:=Lib.hid (H.out.ext M6.out.ext)
  replace Q1:=zme M6 Q1
  replace Q2:=zme M6 Q2
  replace Q3:=zme M6 Q3
  replace T1:=zme M6 T1
  replace Z1:=zme M6 Z1
  replace EW:=zet EW M6
  go_wp2_with ((with_reducible refine zst (L:=[44,41,31,51]) ?_ ?_); exact rfl)
  unfold Hid
  refine wpList_storeW rfl 51 (.tmp 14) (.tmp 72) rfl b14 rfl [.slice ka1 xl.length kc1,I xat,.bool false,I xg,.slice kx1 0 ky1,.slice kg1 xgot.length kh1] (rfl) B_b14 rfl (by kernel_rfl) rfl (fun w7_ M7=>?_)
  replace B_b11:=zwl M7 B_b11 D_b11_b14
  replace B_b13:=zwl M7 B_b13 D_b13_b14
  replace B_b14:=zwb M7
  replace H:=Lib.hid (M7.out.rdM H.out N_b14.out)
  replace Q1:=zwr M7 Q1 N_b14
  replace Q2:=zwr M7 Q2 N_b14
  replace Q3:=zwr M7 Q3 N_b14
  replace T1:=zwr M7 T1 N_b14
  replace Z1:=zwr M7 Z1 N_b14
  replace EW:=zwe M7 EW O_b14
  have d1:=cell_of (i:=1) B_b13.out rfl
  have d0:=cell_of (i:=0) B_b13.out rfl
  go_wp2
  go_ret
  exact ⟨rfl,EW.out⟩
 have HAT:=Lib.hid hat
 clear hat
 refine wpList_loadW rfl 51 (.tmp 13) rfl b13 rfl B_b13 Try.underlying51 (by kernel_rfl) (fun v68 H_v68=>?_)
 go_wp2_with fail
 rw [H_v68.out]
 clear H_v68
 obtain ⟨G1,HG1⟩ : ∃ X : Nat → Prop,Hid (∀ k,X k ↔ (B11 k ∨ w5_.heap.size ≤ k)):=⟨_,fun _=>Iff.rfl⟩
 replace H:=Lib.hid (H.out.widen (B:=G1) fun k _ h=>(HG1.out k).2 (.inl h))
 replace Q1:=Lib.hid (Q1.out.widen (B:=G1) fun k _ h=>(HG1.out k).2 (.inl h))
 replace Q2:=Lib.hid (Q2.out.widen (B:=G1) fun k _ h=>(HG1.out k).2 (.inl h))
 replace Q3:=Lib.hid (Q3.out.widen (B:=G1) fun k _ h=>(HG1.out k).2 (.inl h))
 replace N_b11 : Hid (¬ G1 b11):=zgrC HG1 N_b11 B_b11
 replace N_b13 : Hid (¬ G1 b13):=zgrC HG1 N_b13 B_b13
 refine (HGO.out ⟨xl,xat,false,xg,[],xgot⟩ _ _ _ (j : Int) gen true w5_ G1 Q1.out Q2.out Q3.out (good_like GX.out.1 _ _) (by omega) (by have q:=HLT.out; omega)).to fun r wg1 eg hr=>?_
 rw [go_send false xg xgot (j : Int) gen (by have q:=HAT.out; omega) (by simp)] at hr
 obtain ⟨cs,bv,rfl,hcs,hbv⟩:=rd_tup3 hr
 obtain ⟨x1,x2,x3,rfl,r1,r2,r3⟩:=rd_cn hcs
 obtain ⟨ka1,kc1,q1⟩:=rowOf_slice r1.out
 replace q1 : x1 = .slice ka1 xl.length kc1:=q1
 obtain ⟨kx1,ky1,q2⟩:=rowOf_slice r2.out
 replace q2 : x2 = .slice kx1 0 ky1:=q2
 obtain ⟨kg1,kh1,q3⟩:=rowOf_slice r3.out
 replace q3 : x3 = .slice kg1 xgot.length kh1:=q3
 subst q1 q2 q3
 obtain ⟨pa1,pc1,qb⟩:=row_slice hbv.out
 replace qb : bv = .slice pa1 10 pc1:=qb
 subst qb
 have hin : ∀ k,k < wg1.heap.size → (G1 k ∨ w5_.heap.size ≤ k) → G1 k:=fun k _ h=>(HG1.out k).2 (by rcases h with h | h; exact (HG1.out k).1 h; exact .inr h)
 have T1:=Lib.hid (hcs.widen hin)
 have Z1:=Lib.hid (hbv.widen hin)
 clear hr hcs hbv r1 r2 r3 hin
 replace B_b11:=zbx B_b11 eg
 replace B_b13:=zbx B_b13 eg
 replace H:=Lib.hid (H.out.ext eg)
 replace Q1:=zrx Q1 eg
 replace Q2:=zrx Q2 eg
 replace Q3:=zrx Q3 eg
 replace EW:=Lib.hid (EW.out.trans eg)
 clear eg
 go_wp2_with ((with_reducible refine zst (L:=[44,41,31,51]) ?_ ?_); exact rfl)
 unfold Hid
 refine wpList_allocB rfl 51 #[.slice none 0 0,I 0,.bool false,I 0,.slice none 0 0,.slice none 0 0] (by kernel_rfl) (fun b14 w6_ M6=>?_)
 have D_b11_b14:=zld B_b11 M6
 have D_b13_b14:=zld B_b13 M6
 obtain ⟨G11,HG11⟩ : ∃ X : Nat → Prop,Hid (∀ k,X k ↔ (G1 k ∧ k ≠ b14)):=⟨_,fun _=>Iff.rfl⟩
 replace H:=Lib.hid (H.out.widen (B:=G11) (fun k hk h=>(HG11.out k).2 ⟨h,by have q2:=M6.out.at_; omega⟩))
 replace Q1:=zmd HG11 M6 Q1
 replace Q2:=zmd HG11 M6 Q2
 replace Q3:=zmd HG11 M6 Q3
 replace T1:=zmd HG11 M6 T1
 replace Z1:=zmd HG11 M6 Z1
 replace N_b11:=znw HG11 N_b11
 replace N_b13:=znw HG11 N_b13
 have N_b14 : Hid (¬ G11 b14):=fun h=>((HG11.out _).1 h).2 rfl
 have I_G11 : Hid (∀ k,G11 k → G1 k):=fun k h=>((HG11.out k).1 h).1
 have O_b14 : Hid (w.heap.size ≤ b14):=by unfold Hid; have q2:=M6.out.at_; have q3:=EW.out.size; omega
 replace B_b11:=zmo M6 B_b11
 replace B_b13:=zmo M6 B_b13
 have B_b14:=zmb M6
 replace H:=Lib.hid (H.out.ext M6.out.ext)
 replace Q1:=zme M6 Q1
 replace Q2:=zme M6 Q2
 replace Q3:=zme M6 Q3
 replace T1:=zme M6 T1
 replace Z1:=zme M6 Z1
 replace EW:=zet EW M6
 go_wp2_with ((with_reducible refine zst (L:=[44,41,31,51]) ?_ ?_); exact rfl)
 unfold Hid
 refine wpList_storeW rfl 51 (.tmp 14) (.tmp 72) rfl b14 rfl [.slice ka1 xl.length kc1,I xat,.bool true,I gen,.slice kx1 0 ky1,.slice kg1 xgot.length kh1] (rfl) B_b14 rfl (by kernel_rfl) rfl (fun w7_ M7=>?_)
 replace B_b11:=zwl M7 B_b11 D_b11_b14
 replace B_b13:=zwl M7 B_b13 D_b13_b14
 replace B_b14:=zwb M7
 replace H:=Lib.hid (M7.out.rdM H.out N_b14.out)
 replace Q1:=zwr M7 Q1 N_b14
 replace Q2:=zwr M7 Q2 N_b14
 replace Q3:=zwr M7 Q3 N_b14
 replace T1:=zwr M7 T1 N_b14
 replace Z1:=zwr M7 Z1 N_b14
 replace EW:=zwe M7 EW O_b14
 go_wp2_with ((with_reducible refine zst (L:=[44,41,31,51]) ?_ ?_); exact rfl)
 unfold Hid
 refine wpList_loadW rfl 51 (.tmp 14) rfl b14 rfl B_b14 Try.underlying51 (by kernel_rfl) (fun v88 H_v88=>?_)
 go_wp2_with fail
 rw [H_v88.out]
 clear H_v88
 obtain ⟨G2,HG2⟩ : ∃ X : Nat → Prop,Hid (∀ k,X k ↔ (G11 k ∨ w7_.heap.size ≤ k)):=⟨_,fun _=>Iff.rfl⟩
 replace H:=Lib.hid (H.out.widen (B:=G2) fun k _ h=>(HG2.out k).2 (.inl h))
 replace Q1:=Lib.hid (Q1.out.widen (B:=G2) fun k _ h=>(HG2.out k).2 (.inl h))
 replace Q2:=Lib.hid (Q2.out.widen (B:=G2) fun k _ h=>(HG2.out k).2 (.inl h))
 replace Q3:=Lib.hid (Q3.out.widen (B:=G2) fun k _ h=>(HG2.out k).2 (.inl h))
 replace T1:=Lib.hid (T1.out.widen (B:=G2) fun k _ h=>(HG2.out k).2 (.inl h))
 replace Z1:=Lib.hid (Z1.out.widen (B:=G2) fun k _ h=>(HG2.out k).2 (.inl h))
 replace N_b11 : Hid (¬ G2 b11):=zgrC HG2 N_b11 B_b11
 replace N_b13 : Hid (¬ G2 b13):=zgrC HG2 N_b13 B_b13
 replace N_b14 : Hid (¬ G2 b14):=zgrC HG2 N_b14 B_b14
 refine (HGO.out ⟨xl,xat,true,gen,[],xgot⟩ _ _ _ (j : Int) gen true w7_ G2 (T1.out.imp fun _ h=>(cn_iff.1 h).1) (T1.out.imp fun _ h=>(cn_iff.1 h).2.1) (T1.out.imp fun _ h=>(cn_iff.1 h).2.2) (good_like GX.out.1 _ _) (by omega) (by have q:=HLT.out; omega)).to fun r wg2 eg hr=>?_
 rw [go_wait xgot (j : Int) gen (by have q:=HAT.out; omega)] at hr
 obtain ⟨cs,bv,rfl,hcs,hbv⟩:=rd_tup3 hr
 obtain ⟨x1,x2,x3,rfl,r1,r2,r3⟩:=rd_cn hcs
 obtain ⟨ka2,kc2,q1⟩:=rowOf_slice r1.out
 replace q1 : x1 = .slice ka2 xl.length kc2:=q1
 obtain ⟨kx2,ky2,q2⟩:=rowOf_slice r2.out
 replace q2 : x2 = .slice kx2 0 ky2:=q2
 obtain ⟨kg2,kh2,q3⟩:=rowOf_slice r3.out
 replace q3 : x3 = .slice kg2 xgot.length kh2:=q3
 subst q1 q2 q3
 obtain ⟨pa2,pc2,qb⟩:=row_slice hbv.out
 replace qb : bv = .slice pa2 0 pc2:=qb
 subst qb
 have hin : ∀ k,k < wg2.heap.size → (G2 k ∨ w7_.heap.size ≤ k) → G2 k:=fun k _ h=>(HG2.out k).2 (by rcases h with h | h; exact (HG2.out k).1 h; exact .inr h)
 have T2:=Lib.hid (hcs.widen hin)
 have Z2:=Lib.hid (hbv.widen hin)
 clear hr hcs hbv r1 r2 r3 hin
 replace B_b11:=zbx B_b11 eg
 replace B_b13:=zbx B_b13 eg
 replace B_b14:=zbx B_b14 eg
 replace H:=Lib.hid (H.out.ext eg)
 replace Q1:=zrx Q1 eg
 replace Q2:=zrx Q2 eg
 replace Q3:=zrx Q3 eg
 replace T1:=zrx T1 eg
 replace Z1:=zrx Z1 eg
 replace EW:=Lib.hid (EW.out.trans eg)
 clear eg
 go_wp2_with ((with_reducible refine zst (L:=[44,41,31,51]) ?_ ?_); exact rfl)
 unfold Hid
 refine wpList_allocB rfl 51 #[.slice none 0 0,I 0,.bool false,I 0,.slice none 0 0,.slice none 0 0] (by kernel_rfl) (fun b17 w8_ M8=>?_)
 have D_b11_b17:=zld B_b11 M8
 have D_b13_b17:=zld B_b13 M8
 have D_b14_b17:=zld B_b14 M8
 obtain ⟨G21,HG21⟩ : ∃ X : Nat → Prop,Hid (∀ k,X k ↔ (G2 k ∧ k ≠ b17)):=⟨_,fun _=>Iff.rfl⟩
 replace H:=Lib.hid (H.out.widen (B:=G21) (fun k hk h=>(HG21.out k).2 ⟨h,by have q2:=M8.out.at_; omega⟩))
 replace Q1:=zmd HG21 M8 Q1
 replace Q2:=zmd HG21 M8 Q2
 replace Q3:=zmd HG21 M8 Q3
 replace T1:=zmd HG21 M8 T1
 replace Z1:=zmd HG21 M8 Z1
 replace T2:=zmd HG21 M8 T2
 replace Z2:=zmd HG21 M8 Z2
 replace N_b11:=znw HG21 N_b11
 replace N_b13:=znw HG21 N_b13
 replace N_b14:=znw HG21 N_b14
 have N_b17 : Hid (¬ G21 b17):=fun h=>((HG21.out _).1 h).2 rfl
 have I_G21 : Hid (∀ k,G21 k → G2 k):=fun k h=>((HG21.out k).1 h).1
 have O_b17 : Hid (w.heap.size ≤ b17):=by unfold Hid; have q2:=M8.out.at_; have q3:=EW.out.size; omega
 replace B_b11:=zmo M8 B_b11
 replace B_b13:=zmo M8 B_b13
 replace B_b14:=zmo M8 B_b14
 have B_b17:=zmb M8
 replace H:=Lib.hid (H.out.ext M8.out.ext)
 replace Q1:=zme M8 Q1
 replace Q2:=zme M8 Q2
 replace Q3:=zme M8 Q3
 replace T1:=zme M8 T1
 replace Z1:=zme M8 Z1
 replace T2:=zme M8 T2
 replace Z2:=zme M8 Z2
 replace EW:=zet EW M8
 go_wp2_with ((with_reducible refine zst (L:=[44,41,31,51]) ?_ ?_); exact rfl)
 unfold Hid
 refine wpList_storeW rfl 51 (.tmp 17) (.tmp 92) rfl b17 rfl [.slice ka2 xl.length kc2,I xat,.bool true,I gen,.slice kx2 0 ky2,.slice kg2 xgot.length kh2] (rfl) B_b17 rfl (by kernel_rfl) rfl (fun w9_ M9=>?_)
 replace B_b11:=zwl M9 B_b11 D_b11_b17
 replace B_b13:=zwl M9 B_b13 D_b13_b17
 replace B_b14:=zwl M9 B_b14 D_b14_b17
 replace B_b17:=zwb M9
 replace H:=Lib.hid (M9.out.rdM H.out N_b17.out)
 replace Q1:=zwr M9 Q1 N_b17
 replace Q2:=zwr M9 Q2 N_b17
 replace Q3:=zwr M9 Q3 N_b17
 replace T1:=zwr M9 T1 N_b17
 replace Z1:=zwr M9 Z1 N_b17
 replace T2:=zwr M9 T2 N_b17
 replace Z2:=zwr M9 Z2 N_b17
 replace EW:=zwe M9 EW O_b17
 go_wp2_with ((with_reducible refine zst (L:=[44,41,31,51]) ?_ ?_); exact rfl)
 unfold Hid
 refine wpList_loadW rfl 51 (.tmp 14) rfl b14 rfl B_b14 Try.underlying51 (by kernel_rfl) (fun v96 H_v96=>?_)
 go_wp2_with fail
 rw [H_v96.out]
 clear H_v96
 obtain ⟨G3,HG3⟩ : ∃ X : Nat → Prop,Hid (∀ k,X k ↔ (G21 k ∨ w9_.heap.size ≤ k)):=⟨_,fun _=>Iff.rfl⟩
 replace H:=Lib.hid (H.out.widen (B:=G3) fun k _ h=>(HG3.out k).2 (.inl h))
 replace Q1:=Lib.hid (Q1.out.widen (B:=G3) fun k _ h=>(HG3.out k).2 (.inl h))
 replace Q2:=Lib.hid (Q2.out.widen (B:=G3) fun k _ h=>(HG3.out k).2 (.inl h))
 replace Q3:=Lib.hid (Q3.out.widen (B:=G3) fun k _ h=>(HG3.out k).2 (.inl h))
 replace T1:=Lib.hid (T1.out.widen (B:=G3) fun k _ h=>(HG3.out k).2 (.inl h))
 replace Z1:=Lib.hid (Z1.out.widen (B:=G3) fun k _ h=>(HG3.out k).2 (.inl h))
 replace T2:=Lib.hid (T2.out.widen (B:=G3) fun k _ h=>(HG3.out k).2 (.inl h))
 replace Z2:=Lib.hid (Z2.out.widen (B:=G3) fun k _ h=>(HG3.out k).2 (.inl h))
 replace N_b11 : Hid (¬ G3 b11):=zgrC HG3 N_b11 B_b11
 replace N_b13 : Hid (¬ G3 b13):=zgrC HG3 N_b13 B_b13
 replace N_b14 : Hid (¬ G3 b14):=zgrC HG3 N_b14 B_b14
 replace N_b17 : Hid (¬ G3 b17):=zgrC HG3 N_b17 B_b17
 refine (HGO.out ⟨xl,xat,true,gen,[],xgot⟩ _ _ _ (j : Int) other true w9_ G3 (T1.out.imp fun _ h=>(cn_iff.1 h).1) (T1.out.imp fun _ h=>(cn_iff.1 h).2.1) (T1.out.imp fun _ h=>(cn_iff.1 h).2.2) (good_like GX.out.1 _ _) (by omega) (by have q:=HLT.out; omega)).to fun r wg3 eg hr=>?_
 rw [go_send true gen xgot (j : Int) other (by have q:=HAT.out; omega) (by simpa using HGE.out)] at hr
 obtain ⟨cs,bv,rfl,hcs,hbv⟩:=rd_tup3 hr
 obtain ⟨x1,x2,x3,rfl,r1,r2,r3⟩:=rd_cn hcs
 obtain ⟨ka3,kc3,q1⟩:=rowOf_slice r1.out
 replace q1 : x1 = .slice ka3 xl.length kc3:=q1
 obtain ⟨kx3,ky3,q2⟩:=rowOf_slice r2.out
 replace q2 : x2 = .slice kx3 0 ky3:=q2
 obtain ⟨kg3,kh3,q3⟩:=rowOf_slice r3.out
 replace q3 : x3 = .slice kg3 xgot.length kh3:=q3
 subst q1 q2 q3
 obtain ⟨pa3,pc3,qb⟩:=row_slice hbv.out
 replace qb : bv = .slice pa3 10 pc3:=qb
 subst qb
 have hin : ∀ k,k < wg3.heap.size → (G3 k ∨ w9_.heap.size ≤ k) → G3 k:=fun k _ h=>(HG3.out k).2 (by rcases h with h | h; exact (HG3.out k).1 h; exact .inr h)
 have T3:=Lib.hid (hcs.widen hin)
 have Z3:=Lib.hid (hbv.widen hin)
 clear hr hcs hbv r1 r2 r3 hin
 replace B_b11:=zbx B_b11 eg
 replace B_b13:=zbx B_b13 eg
 replace B_b14:=zbx B_b14 eg
 replace B_b17:=zbx B_b17 eg
 replace H:=Lib.hid (H.out.ext eg)
 replace Q1:=zrx Q1 eg
 replace Q2:=zrx Q2 eg
 replace Q3:=zrx Q3 eg
 replace T1:=zrx T1 eg
 replace Z1:=zrx Z1 eg
 replace T2:=zrx T2 eg
 replace Z2:=zrx Z2 eg
 replace EW:=Lib.hid (EW.out.trans eg)
 clear eg
 go_wp2_with ((with_reducible refine zst (L:=[44,41,31,51]) ?_ ?_); exact rfl)
 unfold Hid
 refine wpList_allocB rfl 51 #[.slice none 0 0,I 0,.bool false,I 0,.slice none 0 0,.slice none 0 0] (by kernel_rfl) (fun b20 w10_ M10=>?_)
 have D_b11_b20:=zld B_b11 M10
 have D_b13_b20:=zld B_b13 M10
 have D_b14_b20:=zld B_b14 M10
 have D_b17_b20:=zld B_b17 M10
 obtain ⟨G31,HG31⟩ : ∃ X : Nat → Prop,Hid (∀ k,X k ↔ (G3 k ∧ k ≠ b20)):=⟨_,fun _=>Iff.rfl⟩
 replace H:=Lib.hid (H.out.widen (B:=G31) (fun k hk h=>(HG31.out k).2 ⟨h,by have q2:=M10.out.at_; omega⟩))
 replace Q1:=zmd HG31 M10 Q1
 replace Q2:=zmd HG31 M10 Q2
 replace Q3:=zmd HG31 M10 Q3
 replace T1:=zmd HG31 M10 T1
 replace Z1:=zmd HG31 M10 Z1
 replace T2:=zmd HG31 M10 T2
 replace Z2:=zmd HG31 M10 Z2
 replace T3:=zmd HG31 M10 T3
 replace Z3:=zmd HG31 M10 Z3
 replace N_b11:=znw HG31 N_b11
 replace N_b13:=znw HG31 N_b13
 replace N_b14:=znw HG31 N_b14
 replace N_b17:=znw HG31 N_b17
 have N_b20 : Hid (¬ G31 b20):=fun h=>((HG31.out _).1 h).2 rfl
 have I_G31 : Hid (∀ k,G31 k → G3 k):=fun k h=>((HG31.out k).1 h).1
 have O_b20 : Hid (w.heap.size ≤ b20):=by unfold Hid; have q2:=M10.out.at_; have q3:=EW.out.size; omega
 replace B_b11:=zmo M10 B_b11
 replace B_b13:=zmo M10 B_b13
 replace B_b14:=zmo M10 B_b14
 replace B_b17:=zmo M10 B_b17
 have B_b20:=zmb M10
 replace H:=Lib.hid (H.out.ext M10.out.ext)
 replace Q1:=zme M10 Q1
 replace Q2:=zme M10 Q2
 replace Q3:=zme M10 Q3
 replace T1:=zme M10 T1
 replace Z1:=zme M10 Z1
 replace T2:=zme M10 T2
 replace Z2:=zme M10 Z2
 replace T3:=zme M10 T3
 replace Z3:=zme M10 Z3
 replace EW:=zet EW M10
 go_wp2_with ((with_reducible refine zst (L:=[44,41,31,51]) ?_ ?_); exact rfl)
 unfold Hid
 refine wpList_storeW rfl 51 (.tmp 20) (.tmp 100) rfl b20 rfl [.slice ka3 xl.length kc3,I xat,.bool true,I other,.slice kx3 0 ky3,.slice kg3 xgot.length kh3] (rfl) B_b20 rfl (by kernel_rfl) rfl (fun w11_ M11=>?_)
 replace B_b11:=zwl M11 B_b11 D_b11_b20
 replace B_b13:=zwl M11 B_b13 D_b13_b20
 replace B_b14:=zwl M11 B_b14 D_b14_b20
 replace B_b17:=zwl M11 B_b17 D_b17_b20
 replace B_b20:=zwb M11
 replace H:=Lib.hid (M11.out.rdM H.out N_b20.out)
 replace Q1:=zwr M11 Q1 N_b20
 replace Q2:=zwr M11 Q2 N_b20
 replace Q3:=zwr M11 Q3 N_b20
 replace T1:=zwr M11 T1 N_b20
 replace Z1:=zwr M11 Z1 N_b20
 replace T2:=zwr M11 T2 N_b20
 replace Z2:=zwr M11 Z2 N_b20
 replace T3:=zwr M11 T3 N_b20
 replace Z3:=zwr M11 Z3 N_b20
 replace EW:=zwe M11 EW O_b20
 go_wp2_with ((with_reducible refine zst (L:=[44,41,31,51]) ?_ ?_); exact rfl)
 unfold Hid
 refine wpList_loadW rfl 51 (.tmp 14) rfl b14 rfl B_b14 Try.underlying51 (by kernel_rfl) (fun v104 H_v104=>?_)
 go_wp2_with fail
 rw [H_v104.out]
 clear H_v104
 obtain ⟨G4,HG4⟩ : ∃ X : Nat → Prop,Hid (∀ k,X k ↔ (G31 k ∨ w11_.heap.size ≤ k)):=⟨_,fun _=>Iff.rfl⟩
 replace H:=Lib.hid (H.out.widen (B:=G4) fun k _ h=>(HG4.out k).2 (.inl h))
 replace Q1:=Lib.hid (Q1.out.widen (B:=G4) fun k _ h=>(HG4.out k).2 (.inl h))
 replace Q2:=Lib.hid (Q2.out.widen (B:=G4) fun k _ h=>(HG4.out k).2 (.inl h))
 replace Q3:=Lib.hid (Q3.out.widen (B:=G4) fun k _ h=>(HG4.out k).2 (.inl h))
 replace T1:=Lib.hid (T1.out.widen (B:=G4) fun k _ h=>(HG4.out k).2 (.inl h))
 replace Z1:=Lib.hid (Z1.out.widen (B:=G4) fun k _ h=>(HG4.out k).2 (.inl h))
 replace T2:=Lib.hid (T2.out.widen (B:=G4) fun k _ h=>(HG4.out k).2 (.inl h))
 replace Z2:=Lib.hid (Z2.out.widen (B:=G4) fun k _ h=>(HG4.out k).2 (.inl h))
 replace T3:=Lib.hid (T3.out.widen (B:=G4) fun k _ h=>(HG4.out k).2 (.inl h))
 replace Z3:=Lib.hid (Z3.out.widen (B:=G4) fun k _ h=>(HG4.out k).2 (.inl h))
 replace N_b11 : Hid (¬ G4 b11):=zgrC HG4 N_b11 B_b11
 replace N_b13 : Hid (¬ G4 b13):=zgrC HG4 N_b13 B_b13
 replace N_b14 : Hid (¬ G4 b14):=zgrC HG4 N_b14 B_b14
 replace N_b17 : Hid (¬ G4 b17):=zgrC HG4 N_b17 B_b17
 replace N_b20 : Hid (¬ G4 b20):=zgrC HG4 N_b20 B_b20
 refine (HGO.out ⟨xl,xat,true,gen,[],xgot⟩ _ _ _ (j : Int) other false w11_ G4 (T1.out.imp fun _ h=>(cn_iff.1 h).1) (T1.out.imp fun _ h=>(cn_iff.1 h).2.1) (T1.out.imp fun _ h=>(cn_iff.1 h).2.2) (good_like GX.out.1 _ _) (by omega) (by have q:=HLT.out; omega)).to fun r wg4 eg hr=>?_
 rw [go_dead true gen xgot (j : Int) other (by have q:=HAT.out; omega)] at hr
 obtain ⟨cs,bv,rfl,hcs,hbv⟩:=rd_tup3 hr
 obtain ⟨x1,x2,x3,rfl,r1,r2,r3⟩:=rd_cn hcs
 obtain ⟨ka4,kc4,q1⟩:=rowOf_slice r1.out
 replace q1 : x1 = .slice ka4 xl.length kc4:=q1
 obtain ⟨kx4,ky4,q2⟩:=rowOf_slice r2.out
 replace q2 : x2 = .slice kx4 0 ky4:=q2
 obtain ⟨kg4,kh4,q3⟩:=rowOf_slice r3.out
 replace q3 : x3 = .slice kg4 xgot.length kh4:=q3
 subst q1 q2 q3
 obtain ⟨pa4,pc4,qb⟩:=row_slice hbv.out
 replace qb : bv = .slice pa4 0 pc4:=qb
 subst qb
 have hin : ∀ k,k < wg4.heap.size → (G4 k ∨ w11_.heap.size ≤ k) → G4 k:=fun k _ h=>(HG4.out k).2 (by rcases h with h | h; exact (HG4.out k).1 h; exact .inr h)
 have T4:=Lib.hid (hcs.widen hin)
 have Z4:=Lib.hid (hbv.widen hin)
 clear hr hcs hbv r1 r2 r3 hin
 replace B_b11:=zbx B_b11 eg
 replace B_b13:=zbx B_b13 eg
 replace B_b14:=zbx B_b14 eg
 replace B_b17:=zbx B_b17 eg
 replace B_b20:=zbx B_b20 eg
 replace H:=Lib.hid (H.out.ext eg)
 replace Q1:=zrx Q1 eg
 replace Q2:=zrx Q2 eg
 replace Q3:=zrx Q3 eg
 replace T1:=zrx T1 eg
 replace Z1:=zrx Z1 eg
 replace T2:=zrx T2 eg
 replace Z2:=zrx Z2 eg
 replace T3:=zrx T3 eg
 replace Z3:=zrx Z3 eg
 replace EW:=Lib.hid (EW.out.trans eg)
 clear eg
 go_wp2_with ((with_reducible refine zst (L:=[44,41,31,51]) ?_ ?_); exact rfl)
 unfold Hid
 refine wpList_allocB rfl 51 #[.slice none 0 0,I 0,.bool false,I 0,.slice none 0 0,.slice none 0 0] (by kernel_rfl) (fun b23 w12_ M12=>?_)
 have D_b11_b23:=zld B_b11 M12
 have D_b13_b23:=zld B_b13 M12
 have D_b14_b23:=zld B_b14 M12
 have D_b17_b23:=zld B_b17 M12
 have D_b20_b23:=zld B_b20 M12
 obtain ⟨G41,HG41⟩ : ∃ X : Nat → Prop,Hid (∀ k,X k ↔ (G4 k ∧ k ≠ b23)):=⟨_,fun _=>Iff.rfl⟩
 replace H:=Lib.hid (H.out.widen (B:=G41) (fun k hk h=>(HG41.out k).2 ⟨h,by have q2:=M12.out.at_; omega⟩))
 replace Q1:=zmd HG41 M12 Q1
 replace Q2:=zmd HG41 M12 Q2
 replace Q3:=zmd HG41 M12 Q3
 replace T1:=zmd HG41 M12 T1
 replace Z1:=zmd HG41 M12 Z1
 replace T2:=zmd HG41 M12 T2
 replace Z2:=zmd HG41 M12 Z2
 replace T3:=zmd HG41 M12 T3
 replace Z3:=zmd HG41 M12 Z3
 replace T4:=zmd HG41 M12 T4
 replace Z4:=zmd HG41 M12 Z4
 replace N_b11:=znw HG41 N_b11
 replace N_b13:=znw HG41 N_b13
 replace N_b14:=znw HG41 N_b14
 replace N_b17:=znw HG41 N_b17
 replace N_b20:=znw HG41 N_b20
 have N_b23 : Hid (¬ G41 b23):=fun h=>((HG41.out _).1 h).2 rfl
 have I_G41 : Hid (∀ k,G41 k → G4 k):=fun k h=>((HG41.out k).1 h).1
 have O_b23 : Hid (w.heap.size ≤ b23):=by unfold Hid; have q2:=M12.out.at_; have q3:=EW.out.size; omega
 replace B_b11:=zmo M12 B_b11
 replace B_b13:=zmo M12 B_b13
 replace B_b14:=zmo M12 B_b14
 replace B_b17:=zmo M12 B_b17
 replace B_b20:=zmo M12 B_b20
 have B_b23:=zmb M12
 replace H:=Lib.hid (H.out.ext M12.out.ext)
 replace Q1:=zme M12 Q1
 replace Q2:=zme M12 Q2
 replace Q3:=zme M12 Q3
 replace T1:=zme M12 T1
 replace Z1:=zme M12 Z1
 replace T2:=zme M12 T2
 replace Z2:=zme M12 Z2
 replace T3:=zme M12 T3
 replace Z3:=zme M12 Z3
 replace T4:=zme M12 T4
 replace Z4:=zme M12 Z4
 replace EW:=zet EW M12
 go_wp2_with ((with_reducible refine zst (L:=[44,41,31,51]) ?_ ?_); exact rfl)
 unfold Hid
 refine wpList_storeW rfl 51 (.tmp 23) (.tmp 108) rfl b23 rfl [.slice ka4 xl.length kc4,I xat,.bool true,I gen,.slice kx4 0 ky4,.slice kg4 xgot.length kh4] (rfl) B_b23 rfl (by kernel_rfl) rfl (fun w13_ M13=>?_)
 replace B_b11:=zwl M13 B_b11 D_b11_b23
 replace B_b13:=zwl M13 B_b13 D_b13_b23
 replace B_b14:=zwl M13 B_b14 D_b14_b23
 replace B_b17:=zwl M13 B_b17 D_b17_b23
 replace B_b20:=zwl M13 B_b20 D_b20_b23
 replace B_b23:=zwb M13
 replace H:=Lib.hid (M13.out.rdM H.out N_b23.out)
 replace Q1:=zwr M13 Q1 N_b23
 replace Q2:=zwr M13 Q2 N_b23
 replace Q3:=zwr M13 Q3 N_b23
 replace T1:=zwr M13 T1 N_b23
 replace Z1:=zwr M13 Z1 N_b23
 replace T2:=zwr M13 T2 N_b23
 replace Z2:=zwr M13 Z2 N_b23
 replace T3:=zwr M13 T3 N_b23
 replace Z3:=zwr M13 Z3 N_b23
 replace T4:=zwr M13 T4 N_b23
 replace Z4:=zwr M13 Z4 N_b23
 replace EW:=zwe M13 EW O_b23
 have hcv1:=run_string_of (P:=Try.prog) Z1.out.out Try.underlying24 Try.underlying5 Try.underlying9
 have hcv2:=run_string_of (P:=Try.prog) Z3.out.out Try.underlying24 Try.underlying5 Try.underlying9
 have d1:=cell_of (i:=1) B_b13.out rfl
 have d5:=cell_of (i:=5) B_b13.out rfl
 have f1:=cell_of (i:=1) B_b20.out rfl
 have f5:=cell_of (i:=5) B_b20.out rfl
 go_wp2
 go_ret
 exact ⟨rfl,EW.out⟩

end Go.Proofs.Ytdmipnnfoolelae
