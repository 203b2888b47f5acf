/- Texts of the proof, merged: C6. -/
import Derived.Test.YtdmipnnfoolelaeKT
import Derived.Test.YtdmipnnfoolelaeKO
import Derived.Test.YtdmipnnfoolelaeKF

namespace Go.Proofs.Ytdmipnnfoolelae
open Go.RowKit Go.Mk

theorem come_one (xl : List Cl) (xat : Int) (xs : Bool) (xg : Int) (xgot : List Rp) (bs : List UInt8) : comeCn ⟨xl,xat,xs,xg,[],xgot⟩ bs = ⟨xl,xat,xs,xg,[bs],xgot⟩:=rfl
theorem hear_yes (xl : List Cl) {xat : Int} {xs : Bool} (xg : Int) (xgot : List Rp) {bs : List UInt8} {me : Int} (gen : Int) (up : Bool) {a : An} {e : Int} (hr : readAn bs = (a,e)) (he : e = 0) (hc : a.client = me) (ht : a.token = xat) (hs : xs = true) :
  goCn ⟨xl,xat,xs,xg,[bs],xgot⟩ me gen up = (⟨xl,xat + 1,false,xg,[],xgot ++ [a.reply]⟩,[],0):=by
 unfold goCn
 dsimp only
 rw [hr,if_pos ⟨he,hc,ht,hs⟩]
theorem hear_no (xl : List Cl) {xat : Int} {xs : Bool} (xg : Int) (xgot : List Rp) {bs : List UInt8} {me : Int} (gen : Int) (up : Bool) {a : An} {e : Int} (hr : readAn bs = (a,e)) (h : ¬ (e = 0 ∧ a.client = me ∧ a.token = xat ∧ xs = true)) :
  goCn ⟨xl,xat,xs,xg,[bs],xgot⟩ me gen up = (⟨xl,xat,xs,xg,[],xgot⟩,[],0):=by
 unfold goCn
 dsimp only
 rw [hr,if_neg h]
theorem good_one {xl : List Cl} {xat : Int} {xs : Bool} {xg : Int} {xgot : List Rp} (h : GoodC ⟨xl,xat,xs,xg,[],xgot⟩) {bs : List UInt8} (hl : bs.length ≤ 140737488355328) : GoodC ⟨xl,xat,xs,xg,[bs],xgot⟩:=⟨h.at0,h.at1,h.calls,h.got,by simp,fun b hb=>by rw [List.mem_singleton.1 hb]; exact hl⟩

set_option maxRecDepth 100000 in
set_option maxHeartbeats 8000000 in
theorem ClientDeaf_of (hCome : ComeOk) (hGo : GoOk) (v0 v1 v2 : Value) (l : List (List Cl)) (steps : List (Int × Int)) (n : Int) (bs : List UInt8) (w : World) (h0 : RowOf 1 elCls w v0 l) (h1 : Writes w v1 steps) (h2 : Bytes w v2 bs) (hr : bs.length * 1 ≤ 140737488355328) :
  Gives Try.prog 5 #[v0,v1,I n,v2] w fun r _=>r = .bool true:=by
 refine gives_exts ?_
 have HV:=Lib.hid h0
 have HSTP:=Lib.hid h1
 have HBS:=Lib.hid (Rd.widen (B:=fun _=>True) (Rd.of (row_heap _ _ _ _) h2) (fun _ _ _=>trivial))
 replace HBS : Hid (Rd (fun _=>True) (fun w=>Bytes w v2 bs) w):=HBS
 have HR : Hid (bs.length ≤ 140737488355328):=by unfold Hid; omega
 obtain ⟨za,zc,rfl⟩:=rowOf_slice h0
 obtain ⟨ta,tc,rfl⟩:=row_slice h1
 obtain ⟨ba,bc,rfl⟩:=row_slice h2
 have HCO:=Lib.hid hCome
 have HGO:=Lib.hid hGo
 clear h0 h1 h2 hr hCome hGo
 have EW:=Lib.hid (Ext.refl w)
 go_enter Try.func5,Try.ntmps5
 go_wp2_with fail
 refine (aliveClient_any HCO.out HGO.out w).to fun r wl el hr=>?_
 subst hr
 replace HBS:=zrx HBS el
 replace EW:=Lib.hid (EW.out.trans el)
 clear el
 go_wp2_with fail
 refine (refRight_any _ l wl (HV.out.ext monoCls' EW.out)).mono ?_
 rintro e wr0 ⟨bR,rfl,hbR,e0⟩
 replace HBS:=zrx HBS e0
 replace EW:=Lib.hid (EW.out.trans e0)
 clear e0
 cases bR
 case false =>
  go_wp2
  go_ret
  exact ⟨rfl,EW.out⟩
 have HRL:=Lib.hid (hbR.1 rfl)
 clear hbR
 go_wp2_with fail
 refine (refPlay_keeps _ _ l steps wr0 (fun _=>True) HRL.out (Rd.widen (Rd.of (rowOf_heap heapCls _ _) (HV.out.ext monoCls' EW.out)) (fun _ _ _=>trivial)) (HSTP.out.ext EW.out)).to fun r wp ep hr=>?_
 obtain ⟨cs,es,rfl,hm,hes⟩:=rd_play hr
 obtain ⟨mk,hmk⟩ : ∃ mk,playM (newMc l) (steps.take 400) = mk:=⟨_,rfl⟩
 have hgc:=good_play HRL.out steps
 have hcn : (playM (newMc l) (steps.take 400)).clients.length ≤ 3:=by
  obtain ⟨ks,bz,hinv⟩:=inv_all HRL.out (steps.take 400)
  rw [hinv.nc]
  exact HRL.out.1
 rw [hmk] at hm hgc hcn
 obtain ⟨c,u,a,p,box,plan,cl,rfl,hM⟩:=rd_mc hm
 obtain ⟨ca,cc,ua,uc,aa,ac,pa,pc,xa,xc,la,lc,ka,kc,rfl,rfl,rfl,rfl,rfl,rfl,rfl⟩:=hM.slices
 obtain ⟨B,HB0⟩ : ∃ B : Nat → Prop,Hid (∀ k,B k ↔ True):=⟨_,fun _=>Iff.rfl⟩
 have H:=Lib.hid (hM.widen (B:=B) (fun k _ _=>(HB0.out k).2 trivial))
 have GC:=Lib.hid hgc
 have HN3:=Lib.hid hcn
 obtain ⟨esa,esc,rfl⟩:=row_slice hes.out
 clear hM hm hr hes hmk hgc hcn HV HSTP
 replace HBS:=zrx HBS ep
 replace EW:=Lib.hid (EW.out.trans ep)
 clear ep
 replace HBS:=Lib.hid (HBS.out.widen (B:=B) fun k _ _=>(HB0.out k).2 trivial)
 go_wp2_with ((with_reducible refine zst (L:=[44,41,31,51]) ?_ ?_); exact rfl)
 unfold Hid
 refine wpList_allocB rfl 44 #[.slice none 0 0,.slice none 0 0,.slice none 0 0,.slice none 0 0,I 0,.slice none 0 0,.bool false,I 0,I 0,I 0,I 0,I 0,I 0,.slice none 0 0,I 0,I 0,.bool false,I 0,I 0,.slice none 0 0] (by kernel_rfl) (fun b9 w1_ M1=>?_)
 obtain ⟨B1,HB1⟩ : ∃ X : Nat → Prop,Hid (∀ k,X k ↔ (B k ∧ k ≠ b9)):=⟨_,fun _=>Iff.rfl⟩
 replace HBS:=zmd HB1 M1 HBS
 replace H:=Lib.hid (H.out.widen (B:=B1) (fun k hk h=>(HB1.out k).2 ⟨h,by have q2:=M1.out.at_; omega⟩))
 have N_b9 : Hid (¬ B1 b9):=fun h=>((HB1.out _).1 h).2 rfl
 have I_B1 : Hid (∀ k,B1 k → B k):=fun k h=>((HB1.out k).1 h).1
 have O_b9 : Hid (w.heap.size ≤ b9):=by unfold Hid; have q2:=M1.out.at_; have q3:=EW.out.size; omega
 have B_b9:=zmb M1
 replace HBS:=zme M1 HBS
 replace H:=Lib.hid (H.out.ext M1.out.ext)
 replace EW:=zet EW M1
 go_wp2_with ((with_reducible refine zst (L:=[44,41,31,51]) ?_ ?_); exact rfl)
 unfold Hid
 refine wpList_storeW rfl 44 (.tmp 9) (.tmp 26) rfl b9 rfl [.slice ca mk.store.cells.length cc,.slice ua mk.store.undo.length uc,.slice aa mk.store.answers.length ac,.slice pa mk.store.past.length pc,I mk.server.gen,.slice xa mk.server.box.length xc,.bool mk.server.busy,I mk.server.now.client,I mk.server.now.token,I mk.server.now.call.kind,I mk.server.now.call.name,I mk.server.now.call.other,I mk.server.now.call.n,.slice la mk.server.plan.length lc,I mk.server.says.err,I mk.server.says.n,.bool mk.up,I mk.pause,I mk.falls,.slice ka mk.clients.length kc] (rfl) B_b9 rfl (by kernel_rfl) rfl (fun w2_ M2=>?_)
 replace B_b9:=zwb M2
 replace HBS:=zwr M2 HBS N_b9
 replace H:=Lib.hid (M2.out.rdM H.out N_b9.out)
 replace EW:=zwe M2 EW O_b9
 by_cases hn0 : n < 0
 case pos =>
  go_wp2
  go_ret
  exact ⟨rfl,EW.out⟩
 have c19:=cell_of (i:=19) B_b9.out rfl
 by_cases hn1 : (mk.clients.length : Int) ≤ n
 case pos =>
  go_wp2
  go_ret
  exact ⟨rfl,EW.out⟩
 obtain ⟨j,rfl⟩ : ∃ j : Nat,n = (j : Int):=⟨n.toNat,by omega⟩
 have hlt : j < mk.clients.length:=by omega
 obtain ⟨css,hcs⟩:=rd_rowOf2 (by decide) H.out.clients
 obtain ⟨c0,x,hc0,hx,-⟩:=elem_at hcs.left.out hlt
 obtain ⟨kcalls,kbox,kgot,rfl,q1,q2,q3⟩:=rd_cn (rd_elem hcs.left hc0 hx)
 have GX:=Lib.hid (GC.out x (List.mem_of_getElem? hx))
 obtain ⟨kb,ko,hka⟩ : ∃ b o,ka = some ⟨b,o,none⟩:=by
  obtain ⟨_,_,e1,_,_,_,hf⟩:=H.out.clients.out.form (by decide)
  simp only [Value.slice.injEq,true_and] at e1
  obtain ⟨rfl,rfl⟩:=e1
  obtain ⟨b,o,_,e2,_⟩:=hf _ _ hx
  exact ⟨b,o,e2⟩
 subst hka
 have hrg:=row_cells (by decide) hcs.right.out hcs.left.out.sizes hc0
 have HXE:=Lib.hid hx
 obtain ⟨xl,xat,xs,xg,xb,xgot⟩:=x
 obtain ⟨ka0,kc0,rfl⟩:=rowOf_slice q1.out
 obtain ⟨kx0,ky0,rfl⟩:=rowOf_slice q2.out
 obtain ⟨kg0,kh0,rfl⟩:=rowOf_slice q3.out
 simp only [] at *
 have hc4:=hrg 4 _ rfl
 have HRG:=Lib.hid hrg
 have Q1:=Lib.hid q1
 have Q2:=Lib.hid q2
 have Q3:=Lib.hid q3
 have hli : (j : Int) < (mk.clients.length : Int):=by omega
 have hl0 : (0 : Int) ≤ (j : Int):=by omega
 have HLT : Hid (j < 3):=by unfold Hid; have q:=HN3.out; omega
 clear hcs hc0 hx q1 q2 q3 hrg hn0 hn1 hlt
 by_cases hbx : 0 < xb.length
 case pos =>
  have hbi : (0 : Int) < (xb.length : Int):=by omega
  go_wp2
  go_ret
  exact ⟨rfl,EW.out⟩
 obtain rfl : xb = []:=List.eq_nil_of_length_eq_zero (by omega)
 simp only [List.length_nil] at *
 go_wp2_with ((with_reducible refine zst (L:=[44,41,31,51]) ?_ ?_); exact rfl)
 unfold Hid
 clear hli hl0 hc4 c19 hbx
 refine wpList_loadR rfl 51 (.tmp 50) rfl kb (ko + j * 6) rfl [.slice ka0 xl.length kc0,I xat,.bool xs,I xg,.slice kx0 0 ky0,.slice kg0 xgot.length kh0] HRG.out Try.underlying51 (by kernel_rfl) (fun v51 H_v51=>?_)
 go_wp2_with ((with_reducible refine zst (L:=[44,41,31,51]) ?_ ?_); exact rfl)
 unfold Hid
 refine wpList_allocB rfl 51 #[.slice none 0 0,I 0,.bool false,I 0,.slice none 0 0,.slice none 0 0] (by kernel_rfl) (fun b11 w3_ M3=>?_)
 have D_b9_b11:=zld B_b9 M3
 obtain ⟨B11,HB11⟩ : ∃ X : Nat → Prop,Hid (∀ k,X k ↔ (B1 k ∧ k ≠ b11)):=⟨_,fun _=>Iff.rfl⟩
 replace HBS:=zmd HB11 M3 HBS
 replace H:=Lib.hid (H.out.widen (B:=B11) (fun k hk h=>(HB11.out k).2 ⟨h,by have q2:=M3.out.at_; omega⟩))
 replace Q1:=zmd HB11 M3 Q1
 replace Q2:=zmd HB11 M3 Q2
 replace Q3:=zmd HB11 M3 Q3
 replace N_b9:=znw HB11 N_b9
 have N_b11 : Hid (¬ B11 b11):=fun h=>((HB11.out _).1 h).2 rfl
 have I_B11 : Hid (∀ k,B11 k → B1 k):=fun k h=>((HB11.out k).1 h).1
 have O_b11 : Hid (w.heap.size ≤ b11):=by unfold Hid; have q2:=M3.out.at_; have q3:=EW.out.size; omega
 replace B_b9:=zmo M3 B_b9
 have B_b11:=zmb M3
 replace HBS:=zme M3 HBS
 replace H:=Lib.hid (H.out.ext M3.out.ext)
 replace Q1:=zme M3 Q1
 replace Q2:=zme M3 Q2
 replace Q3:=zme M3 Q3
 replace EW:=zet EW M3
 go_wp2_with ((with_reducible refine zst (L:=[44,41,31,51]) ?_ ?_); exact rfl)
 unfold Hid
 refine wpList_storeW rfl 51 (.tmp 11) (.tmp 51) rfl b11 rfl _ (zcv H_v51) B_b11 rfl (by kernel_rfl) rfl (fun w4_ M4=>?_)
 replace B_b9:=zwl M4 B_b9 D_b9_b11
 replace B_b11:=zwb M4
 replace HBS:=zwr M4 HBS N_b11
 replace H:=Lib.hid (M4.out.rdM H.out N_b11.out)
 replace Q1:=zwr M4 Q1 N_b11
 replace Q2:=zwr M4 Q2 N_b11
 replace Q3:=zwr M4 Q3 N_b11
 replace EW:=zwe M4 EW O_b11
 go_wp2_with fail
 obtain ⟨⟨rc,rt,⟨re,rn⟩⟩,ee,hrd⟩ : ∃ x y,readAn bs = (x,y):=⟨_,_,rfl⟩
 have HRD:=Lib.hid hrd
 have hra:=refReadAnswer_any _ bs w4_ HBS.out.out
 rw [hrd] at hra
 refine Calls.exts hra (fun wq eq=>?_)
 clear hra hrd
 replace B_b9:=zbx B_b9 eq
 replace B_b11:=zbx B_b11 eq
 replace HBS:=zrx HBS eq
 replace H:=Lib.hid (H.out.ext eq)
 replace Q1:=zrx Q1 eq
 replace Q2:=zrx Q2 eq
 replace Q3:=zrx Q3 eq
 replace EW:=Lib.hid (EW.out.trans eq)
 clear eq
 go_wp2_with ((with_reducible refine zst (L:=[44,41,31,51]) ?_ ?_); exact rfl)
 unfold Hid
 refine wpList_allocB rfl 60 #[I 0,I 0,I 0,I 0] (by kernel_rfl) (fun b12 w5_ M5=>?_)
 have D_b9_b12:=zld B_b9 M5
 have D_b11_b12:=zld B_b11 M5
 obtain ⟨B111,HB111⟩ : ∃ X : Nat → Prop,Hid (∀ k,X k ↔ (B11 k ∧ k ≠ b12)):=⟨_,fun _=>Iff.rfl⟩
 replace HBS:=zmd HB111 M5 HBS
 replace H:=Lib.hid (H.out.widen (B:=B111) (fun k hk h=>(HB111.out k).2 ⟨h,by have q2:=M5.out.at_; omega⟩))
 replace Q1:=zmd HB111 M5 Q1
 replace Q2:=zmd HB111 M5 Q2
 replace Q3:=zmd HB111 M5 Q3
 replace N_b9:=znw HB111 N_b9
 replace N_b11:=znw HB111 N_b11
 have N_b12 : Hid (¬ B111 b12):=fun h=>((HB111.out _).1 h).2 rfl
 have I_B111 : Hid (∀ k,B111 k → B11 k):=fun k h=>((HB111.out k).1 h).1
 have O_b12 : Hid (w.heap.size ≤ b12):=by unfold Hid; have q2:=M5.out.at_; have q3:=EW.out.size; omega
 replace B_b9:=zmo M5 B_b9
 replace B_b11:=zmo M5 B_b11
 have B_b12:=zmb M5
 replace HBS:=zme M5 HBS
 replace H:=Lib.hid (H.out.ext M5.out.ext)
 replace Q1:=zme M5 Q1
 replace Q2:=zme M5 Q2
 replace Q3:=zme M5 Q3
 replace EW:=zet EW M5
 go_wp2_with ((with_reducible refine zst (L:=[44,41,31,51]) ?_ ?_); exact rfl)
 unfold Hid
 refine wpList_storeW rfl 60 (.tmp 12) (.tmp 55) rfl b12 rfl [I rc,I rt,I re,I rn] (rfl) B_b12 rfl (by kernel_rfl) rfl (fun w6_ M6=>?_)
 replace B_b9:=zwl M6 B_b9 D_b9_b12
 replace B_b11:=zwl M6 B_b11 D_b11_b12
 replace B_b12:=zwb M6
 replace HBS:=zwr M6 HBS N_b12
 replace H:=Lib.hid (M6.out.rdM H.out N_b12.out)
 replace Q1:=zwr M6 Q1 N_b12
 replace Q2:=zwr M6 Q2 N_b12
 replace Q3:=zwr M6 Q3 N_b12
 replace EW:=zwe M6 EW O_b12
 obtain ⟨⟨gl,gat,gs,gg,gb,ggot⟩,gbs,gge,hgo⟩ : ∃ x y z,goCn ⟨xl,xat,xs,xg,[bs],xgot⟩ (j : Int) mk.server.gen mk.up = (x,y,z):=⟨_,_,_,rfl⟩
 have HG:=Lib.hid hgo
 obtain ⟨rfl,rfl,rfl⟩ : gb = [] ∧ gbs = [] ∧ gge = 0:=by
  by_cases hc : ee = 0 ∧ rc = (j : Int) ∧ rt = xat ∧ xs = true
  ·have q:=hear_yes xl xg xgot (bs:=bs) mk.server.gen mk.up HRD.out hc.1 hc.2.1 hc.2.2.1 hc.2.2.2
   rw [q] at hgo
   simp at hgo
   exact ⟨hgo.1.2.2.2.2.1,hgo.2.1,hgo.2.2.symm⟩
  ·have q:=hear_no xl xg xgot (bs:=bs) mk.server.gen mk.up HRD.out hc
   rw [q] at hgo
   simp at hgo
   exact ⟨hgo.1.2.2.2.2.1,hgo.2.1,hgo.2.2.symm⟩
 clear hgo
 obtain ⟨AA,HAA⟩ : ∃ X : Nat → Prop,Hid (∀ k,X k ↔ (B111 k ∧ k < w6_.heap.size)):=⟨_,fun _=>Iff.rfl⟩
 replace Q1:=Lib.hid (Q1.out.widen (B:=AA) fun k hk h=>(HAA.out k).2 ⟨h,hk⟩)
 replace Q2:=Lib.hid (Q2.out.widen (B:=AA) fun k hk h=>(HAA.out k).2 ⟨h,hk⟩)
 replace Q3:=Lib.hid (Q3.out.widen (B:=AA) fun k hk h=>(HAA.out k).2 ⟨h,hk⟩)
 replace HBS:=Lib.hid (HBS.out.widen (B:=AA) fun k hk h=>(HAA.out k).2 ⟨h,hk⟩)
 have SZA : Hid (∀ k,AA k → k < w6_.heap.size):=fun k h=>((HAA.out k).1 h).2
 clear H
 have SZ0 : Hid (b11 < w6_.heap.size ∧ b12 < w6_.heap.size):=⟨(Array.getElem?_eq_some_iff.1 B_b11.out).1,(Array.getElem?_eq_some_iff.1 B_b12.out).1⟩
 go_upto_region 10 with fail
 refine code_normC (fun K hK=>?_)
 go_simp
 refine hK _ ?_
 clear hK K HRG
 go_cut [14,15,16] (fun p14 v15 e16 wc=>∃ (b14 : Nat) (ka6 : Option Addr) (kc6 : Nat) (kx6 : Option Addr) (ky6 : Nat) (kg6 : Option Addr) (kh6 : Nat) (pba : Option Addr) (pbc : Nat),p14 = .pointer (some ⟨b14,0,none⟩) ∧ v15 = .slice pba 0 pbc ∧ e16 = I 0 ∧ w6_.heap.size ≤ b14 ∧ wc.heap[b14]? = some (.cells #[.slice ka6 gl.length kc6,I gat,.bool gs,I gg,.slice kx6 0 ky6,.slice kg6 ggot.length kh6] 51 (0,0)) ∧ Ext w6_ wc ∧ Rd (fun k=>k ≠ b14) (fun w=>elCn w [.slice ka6 gl.length kc6,I gat,.bool gs,I gg,.slice kx6 0 ky6,.slice kg6 ggot.length kh6] ⟨gl,gat,gs,gg,[],ggot⟩) wc)
 case first =>
  go_wp2_with fail
  refine held_drew (S:=fun w'=>w'.heap[b11]? = some (.cells #[.slice ka0 xl.length kc0,I xat,.bool xs,I xg,.slice kx0 0 ky0,.slice kg0 xgot.length kh0] 51 (0,0)) ∧ w'.heap[b9]? = some (.cells #[.slice ca mk.store.cells.length cc,.slice ua mk.store.undo.length uc,.slice aa mk.store.answers.length ac,.slice pa mk.store.past.length pc,I mk.server.gen,.slice xa mk.server.box.length xc,.bool mk.server.busy,I mk.server.now.client,I mk.server.now.token,I mk.server.now.call.kind,I mk.server.now.call.name,I mk.server.now.call.other,I mk.server.now.call.n,.slice la mk.server.plan.length lc,I mk.server.says.err,I mk.server.says.n,.bool mk.up,I mk.pause,I mk.falls,.slice (some ⟨kb,ko,none⟩) mk.clients.length kc] 44 (0,0))) (by kernel_rfl) (fun wd ed _=>?_)
  replace B_b9:=zbx B_b9 ed
  replace B_b11:=zbx B_b11 ed
  replace B_b12:=zbx B_b12 ed
  replace Q1:=zrx Q1 ed
  replace Q2:=zrx Q2 ed
  replace Q3:=zrx Q3 ed
  replace HBS:=zrx HBS ed
  replace EW:=Lib.hid (EW.out.trans ed)
  have HSS : Hid (wd.heap[b11]? = some (.cells #[.slice ka0 xl.length kc0,I xat,.bool xs,I xg,.slice kx0 0 ky0,.slice kg0 xgot.length kh0] 51 (0,0)) ∧ wd.heap[b9]? = some (.cells #[.slice ca mk.store.cells.length cc,.slice ua mk.store.undo.length uc,.slice aa mk.store.answers.length ac,.slice pa mk.store.past.length pc,I mk.server.gen,.slice xa mk.server.box.length xc,.bool mk.server.busy,I mk.server.now.client,I mk.server.now.token,I mk.server.now.call.kind,I mk.server.now.call.name,I mk.server.now.call.other,I mk.server.now.call.n,.slice la mk.server.plan.length lc,I mk.server.says.err,I mk.server.says.n,.bool mk.up,I mk.pause,I mk.falls,.slice (some ⟨kb,ko,none⟩) mk.clients.length kc] 44 (0,0))):=⟨B_b11.out,B_b9.out⟩
  have EXK : Hid (Ext w6_ wd):=ed
  clear ed
  refine held_loadW 0 rfl (by kernel_rfl) (by kernel_rfl) (by kernel_rfl) (fun _ _ _ _ h=>h) rfl 51 (.tmp 11) rfl b11 rfl (fun w' hS=>hS.1) Try.underlying51 (by kernel_rfl) HSS ?_
  refine held_norm (fun K hK=>?_); go_simp; refine hK _ ?_; clear hK K
  refine held_pure 1 rfl (by kernel_rfl) (by kernel_rfl) (by kernel_rfl) (fun _ _ _ _ h=>h) rfl HSS.out (fun K hK=>?_); go_simp; refine hK _ ?_; clear hK K
  refine held_pure 3 rfl (by kernel_rfl) (by kernel_rfl) (by kernel_rfl) (fun _ _ _ _ h=>h) rfl HSS.out (fun K hK=>?_); go_simp; refine hK _ ?_; clear hK K
  refine held_pure 4 rfl (by kernel_rfl) (by kernel_rfl) (by kernel_rfl) (fun _ _ _ _ h=>h) rfl HSS.out (fun K hK=>?_); go_simp; refine hK _ ?_; clear hK K
  refine held_pure 5 rfl (by kernel_rfl) (by kernel_rfl) (by kernel_rfl) (fun _ _ _ _ h=>h) rfl HSS.out (fun K hK=>?_); go_simp; refine hK _ ?_; clear hK K
  refine held_take 6 rfl (by kernel_rfl) (by kernel_rfl) (by kernel_rfl) (fun _ _ _ _ h=>h) (I mk.server.gen) rfl (fun w' hS=>by have q0:=cell_of (i:=4) hS.2 rfl; go_simp) HSS.out ?_
  refine held_norm (fun K hK=>?_); go_simp; refine hK _ ?_; clear hK K
  refine held_pure 7 rfl (by kernel_rfl) (by kernel_rfl) (by kernel_rfl) (fun _ _ _ _ h=>h) rfl HSS.out (fun K hK=>?_); go_simp; refine hK _ ?_; clear hK K
  refine held_take 8 rfl (by kernel_rfl) (by kernel_rfl) (by kernel_rfl) (fun _ _ _ _ h=>h) (.bool mk.up) rfl (fun w' hS=>by have q0:=cell_of (i:=16) hS.2 rfl; go_simp) HSS.out ?_
  refine held_norm (fun K hK=>?_); go_simp; refine hK _ ?_; clear hK K
  refine held_two 2 14 (by kernel_rfl) ?_ ?_
  ·refine wpOp_call rfl rfl 8 #[.agg #[.slice ka0 xl.length kc0,I xat,.bool xs,I xg,.slice kx0 0 ky0,.slice kg0 xgot.length kh0],.slice ba bs.length bc] (by go_simp) ?_
   refine (HCO.out ⟨xl,xat,xs,xg,[],xgot⟩ _ _ _ _ bs wd AA Q1.out Q2.out Q3.out HBS.out GX.out.1 HR.out).to fun r wc1 eg hr=>?_
   rw [come_one] at hr
   obtain ⟨cs,rfl,hcs⟩:=rd_agg hr
   obtain ⟨x1,x2,x3,rfl,r1,r2,r3⟩:=rd_cn hcs
   obtain ⟨ka1,kc1,q1⟩:=rowOf_slice r1.out
   replace q1 : x1 = .slice ka1 xl.length kc1:=q1
   obtain ⟨kx1,ky1,q2⟩:=rowOf_slice r2.out
   replace q2 : x2 = .slice kx1 1 ky1:=q2
   obtain ⟨kg1,kh1,q3⟩:=rowOf_slice r3.out
   replace q3 : x3 = .slice kg1 xgot.length kh1:=q3
   subst q1 q2 q3
   have C1 : Hid (Rd (fun k=>(AA k ∨ w6_.heap.size ≤ k)) (fun w=>elCn w [.slice ka1 xl.length kc1,I xat,.bool xs,I xg,.slice kx1 1 ky1,.slice kg1 xgot.length kh1] ⟨xl,xat,xs,xg,[bs],xgot⟩) wc1):=hcs.widen fun k _ h=>(by rcases h with h | h; exact .inl h; exact .inr (by have q:=EXK.out.size; omega))
   clear hr hcs r1 r2 r3
   replace B_b11:=zbx B_b11 eg
   replace B_b9:=zbx B_b9 eg
   replace Q1:=zrx Q1 eg
   replace Q2:=zrx Q2 eg
   replace Q3:=zrx Q3 eg
   replace HBS:=zrx HBS eg
   replace EW:=Lib.hid (EW.out.trans eg)
   replace EXK:=Lib.hid (EXK.out.trans eg)
   clear HSS eg
   refine ⟨_,rfl,⟨B_b11.out,B_b9.out⟩,?_⟩
   have HSS : Hid (wc1.heap[b11]? = some (.cells #[.slice ka0 xl.length kc0,I xat,.bool xs,I xg,.slice kx0 0 ky0,.slice kg0 xgot.length kh0] 51 (0,0)) ∧ wc1.heap[b9]? = some (.cells #[.slice ca mk.store.cells.length cc,.slice ua mk.store.undo.length uc,.slice aa mk.store.answers.length ac,.slice pa mk.store.past.length pc,I mk.server.gen,.slice xa mk.server.box.length xc,.bool mk.server.busy,I mk.server.now.client,I mk.server.now.token,I mk.server.now.call.kind,I mk.server.now.call.name,I mk.server.now.call.other,I mk.server.now.call.n,.slice la mk.server.plan.length lc,I mk.server.says.err,I mk.server.says.n,.bool mk.up,I mk.pause,I mk.falls,.slice (some ⟨kb,ko,none⟩) mk.clients.length kc] 44 (0,0))):=⟨B_b11.out,B_b9.out⟩
   refine held_norm (fun K hK=>?_); go_simp; refine hK _ ?_; clear hK K
   refine held_two 9 14 (by kernel_rfl) ?_ ?_
   ·refine wpOp_call rfl rfl 11 #[.agg #[.slice ka1 xl.length kc1,I xat,.bool xs,I xg,.slice kx1 1 ky1,.slice kg1 xgot.length kh1],I (j : Int),I mk.server.gen,.bool mk.up] (by go_simp) ?_
    have hp:=C1.out.imp fun _ h=>(cn_iff (c:=⟨xl,xat,xs,xg,[bs],xgot⟩)).1 h
    refine (HGO.out ⟨xl,xat,xs,xg,[bs],xgot⟩ _ _ _ (j : Int) mk.server.gen mk.up wc1 (fun k=>(AA k ∨ w6_.heap.size ≤ k)) hp.left hp.right.left hp.right.right (good_one GX.out.1 HR.out) (by omega) (by have q:=HLT.out; omega)).to fun r wc2 eg hr=>?_
    rw [HG.out] at hr
    obtain ⟨cs,bv,rfl,hcs,hbv⟩:=rd_tup3 hr
    obtain ⟨x1,x2,x3,rfl,r1,r2,r3⟩:=rd_cn hcs
    obtain ⟨ka6,kc6,q1⟩:=rowOf_slice r1.out
    replace q1 : x1 = .slice ka6 gl.length kc6:=q1
    obtain ⟨kx6,ky6,q2⟩:=rowOf_slice r2.out
    replace q2 : x2 = .slice kx6 0 ky6:=q2
    obtain ⟨kg6,kh6,q3⟩:=rowOf_slice r3.out
    replace q3 : x3 = .slice kg6 ggot.length kh6:=q3
    subst q1 q2 q3
    obtain ⟨pba,pbc,qb⟩:=row_slice hbv.out
    replace qb : bv = .slice pba 0 pbc:=qb
    subst qb
    clear hp hbv
    have C2 : Hid (Rd (fun k=>(AA k ∨ w6_.heap.size ≤ k)) (fun w=>elCn w [.slice ka6 gl.length kc6,I gat,.bool gs,I gg,.slice kx6 0 ky6,.slice kg6 ggot.length kh6] ⟨gl,gat,gs,gg,[],ggot⟩) wc2):=hcs.widen fun k _ h=>(by rcases h with h | h; exact h; exact .inr (by have q:=EXK.out.size; omega))
    clear hr hcs r1 r2 r3 C1
    replace B_b11:=zbx B_b11 eg
    replace B_b9:=zbx B_b9 eg
    replace Q1:=zrx Q1 eg
    replace Q2:=zrx Q2 eg
    replace Q3:=zrx Q3 eg
    replace HBS:=zrx HBS eg
    replace EW:=Lib.hid (EW.out.trans eg)
    replace EXK:=Lib.hid (EXK.out.trans eg)
    clear HSS eg
    refine ⟨_,rfl,⟨B_b11.out,B_b9.out⟩,?_⟩
    have HSS : Hid (wc2.heap[b11]? = some (.cells #[.slice ka0 xl.length kc0,I xat,.bool xs,I xg,.slice kx0 0 ky0,.slice kg0 xgot.length kh0] 51 (0,0)) ∧ wc2.heap[b9]? = some (.cells #[.slice ca mk.store.cells.length cc,.slice ua mk.store.undo.length uc,.slice aa mk.store.answers.length ac,.slice pa mk.store.past.length pc,I mk.server.gen,.slice xa mk.server.box.length xc,.bool mk.server.busy,I mk.server.now.client,I mk.server.now.token,I mk.server.now.call.kind,I mk.server.now.call.name,I mk.server.now.call.other,I mk.server.now.call.n,.slice la mk.server.plan.length lc,I mk.server.says.err,I mk.server.says.n,.bool mk.up,I mk.pause,I mk.falls,.slice (some ⟨kb,ko,none⟩) mk.clients.length kc] 44 (0,0))):=⟨B_b11.out,B_b9.out⟩
    refine held_norm (fun K hK=>?_); go_simp; refine hK _ ?_; clear hK K
    refine held_pure 10 rfl (by kernel_rfl) (by kernel_rfl) (by kernel_rfl) (fun _ _ _ _ h=>h) rfl HSS.out (fun K hK=>?_); go_simp; refine hK _ ?_; clear hK K
    refine held_pure 11 rfl (by kernel_rfl) (by kernel_rfl) (by kernel_rfl) (fun _ _ _ _ h=>h) rfl HSS.out (fun K hK=>?_); go_simp; refine hK _ ?_; clear hK K
    refine held_pure 12 rfl (by kernel_rfl) (by kernel_rfl) (by kernel_rfl) (fun _ _ _ _ h=>h) rfl HSS.out (fun K hK=>?_); go_simp; refine hK _ ?_; clear hK K
    refine held_pure 13 rfl (by kernel_rfl) (by kernel_rfl) (by kernel_rfl) (fun _ _ _ _ h=>h) rfl HSS.out (fun K hK=>?_); go_simp; refine hK _ ?_; clear hK K
    refine held_all 14 (by kernel_rfl) ?_
    refine wpOp_alloc rfl rfl 51 #[.slice none 0 0,I 0,.bool false,I 0,.slice none 0 0,.slice none 0 0] (by kernel_rfl) (fun b14 wa14 MA14=>⟨⟨MA14.out.old B_b11.out,MA14.out.old B_b9.out⟩,?_⟩)
    have HB_b14 : Hid (w6_.heap.size ≤ b14):=by unfold Hid; have q:=MA14.out.at_; have q3:=EXK.out.size; omega
    have D_b11_b14:=zld B_b11 MA14
    have D_b9_b14:=zld B_b9 MA14
    replace C2:=Lib.hid (C2.out.widen (B:=(fun k=>(AA k ∨ w6_.heap.size ≤ k) ∧ k ≠ b14)) (fun k hk h=>⟨h,by have q:=MA14.out.at_; omega⟩))
    replace Q1:=Lib.hid (Q1.out.ext MA14.out.ext)
    replace Q2:=Lib.hid (Q2.out.ext MA14.out.ext)
    replace Q3:=Lib.hid (Q3.out.ext MA14.out.ext)
    replace HBS:=Lib.hid (HBS.out.ext MA14.out.ext)
    replace C2:=Lib.hid (C2.out.ext MA14.out.ext)
    replace B_b11:=zmo MA14 B_b11
    replace B_b9:=zmo MA14 B_b9
    have B_b14:=zmb MA14
    replace EXK:=zet EXK MA14
    replace EW:=zet EW MA14
    clear HSS
    have HSS : Hid (wa14.heap[b11]? = some (.cells #[.slice ka0 xl.length kc0,I xat,.bool xs,I xg,.slice kx0 0 ky0,.slice kg0 xgot.length kh0] 51 (0,0)) ∧ wa14.heap[b9]? = some (.cells #[.slice ca mk.store.cells.length cc,.slice ua mk.store.undo.length uc,.slice aa mk.store.answers.length ac,.slice pa mk.store.past.length pc,I mk.server.gen,.slice xa mk.server.box.length xc,.bool mk.server.busy,I mk.server.now.client,I mk.server.now.token,I mk.server.now.call.kind,I mk.server.now.call.name,I mk.server.now.call.other,I mk.server.now.call.n,.slice la mk.server.plan.length lc,I mk.server.says.err,I mk.server.says.n,.bool mk.up,I mk.pause,I mk.falls,.slice (some ⟨kb,ko,none⟩) mk.clients.length kc] 44 (0,0))):=⟨B_b11.out,B_b9.out⟩
    refine held_norm (fun K hK=>?_); go_simp; refine hK _ ?_; clear hK K
    refine held_storeW 15 (by kernel_rfl) rfl rfl 51 (.tmp 14) (.tmp 68) rfl b14 rfl [.slice ka6 gl.length kc6,I gat,.bool gs,I gg,.slice kx6 0 ky6,.slice kg6 ggot.length kh6] rfl B_b14 rfl (by kernel_rfl) rfl (fun ws MS=>⟨⟨MS.out.old B_b11.out (Nat.ne_of_lt D_b11_b14.out),MS.out.old B_b9.out (Nat.ne_of_lt D_b9_b14.out)⟩,?_⟩)
    replace C2:=Lib.hid (MS.out.rd C2.out (fun h=>h.2 rfl))
    replace B_b11:=zwl MS B_b11 D_b11_b14
    replace B_b9:=zwl MS B_b9 D_b9_b14
    replace B_b14:=zwb MS
    replace EXK:=Lib.hid (MS.out.ext EXK.out HB_b14.out)
    clear HSS
    have HSS : Hid (ws.heap[b11]? = some (.cells #[.slice ka0 xl.length kc0,I xat,.bool xs,I xg,.slice kx0 0 ky0,.slice kg0 xgot.length kh0] 51 (0,0)) ∧ ws.heap[b9]? = some (.cells #[.slice ca mk.store.cells.length cc,.slice ua mk.store.undo.length uc,.slice aa mk.store.answers.length ac,.slice pa mk.store.past.length pc,I mk.server.gen,.slice xa mk.server.box.length xc,.bool mk.server.busy,I mk.server.now.client,I mk.server.now.token,I mk.server.now.call.kind,I mk.server.now.call.name,I mk.server.now.call.other,I mk.server.now.call.n,.slice la mk.server.plan.length lc,I mk.server.says.err,I mk.server.says.n,.bool mk.up,I mk.pause,I mk.falls,.slice (some ⟨kb,ko,none⟩) mk.clients.length kc] 44 (0,0))):=⟨B_b11.out,B_b9.out⟩
    refine held_norm (fun K hK=>?_); go_simp; refine hK _ ?_; clear hK K
    refine held_value 16 (by kernel_rfl) rfl rfl _ rfl HSS.out ?_
    refine held_norm (fun K hK=>?_); go_simp; refine hK _ ?_; clear hK K
    refine held_value 17 (by kernel_rfl) rfl rfl _ rfl HSS.out ?_
    refine held_norm (fun K hK=>?_); go_simp; refine hK _ ?_; clear hK K
    refine wpAnyH_done (by kernel_rfl) ?_ _
    clear HSS
    go_wp2_with fail
    go_meet
    case rel=>exact ⟨b14,_,_,_,_,_,_,_,_,rfl,rfl,rfl,HB_b14.out,B_b14.out,EXK.out,C2.out.widen fun k _ h=>h.2⟩
   ·refine wpOp_alloc rfl rfl 51 #[.slice none 0 0,I 0,.bool false,I 0,.slice none 0 0,.slice none 0 0] (by kernel_rfl) (fun b14 wa14 MA14=>⟨⟨MA14.out.old B_b11.out,MA14.out.old B_b9.out⟩,?_⟩)
    have HB_b14 : Hid (w6_.heap.size ≤ b14):=by unfold Hid; have q:=MA14.out.at_; have q3:=EXK.out.size; omega
    have D_b11_b14:=zld B_b11 MA14
    have D_b9_b14:=zld B_b9 MA14
    replace C1:=Lib.hid (C1.out.widen (B:=(fun k=>(AA k ∨ w6_.heap.size ≤ k) ∧ k ≠ b14)) (fun k hk h=>⟨h,by have q:=MA14.out.at_; omega⟩))
    replace Q1:=Lib.hid (Q1.out.ext MA14.out.ext)
    replace Q2:=Lib.hid (Q2.out.ext MA14.out.ext)
    replace Q3:=Lib.hid (Q3.out.ext MA14.out.ext)
    replace HBS:=Lib.hid (HBS.out.ext MA14.out.ext)
    replace C1:=Lib.hid (C1.out.ext MA14.out.ext)
    replace B_b11:=zmo MA14 B_b11
    replace B_b9:=zmo MA14 B_b9
    have B_b14:=zmb MA14
    replace EXK:=zet EXK MA14
    replace EW:=zet EW MA14
    clear HSS
    have HSS : Hid (wa14.heap[b11]? = some (.cells #[.slice ka0 xl.length kc0,I xat,.bool xs,I xg,.slice kx0 0 ky0,.slice kg0 xgot.length kh0] 51 (0,0)) ∧ wa14.heap[b9]? = some (.cells #[.slice ca mk.store.cells.length cc,.slice ua mk.store.undo.length uc,.slice aa mk.store.answers.length ac,.slice pa mk.store.past.length pc,I mk.server.gen,.slice xa mk.server.box.length xc,.bool mk.server.busy,I mk.server.now.client,I mk.server.now.token,I mk.server.now.call.kind,I mk.server.now.call.name,I mk.server.now.call.other,I mk.server.now.call.n,.slice la mk.server.plan.length lc,I mk.server.says.err,I mk.server.says.n,.bool mk.up,I mk.pause,I mk.falls,.slice (some ⟨kb,ko,none⟩) mk.clients.length kc] 44 (0,0))):=⟨B_b11.out,B_b9.out⟩
    refine held_norm (fun K hK=>?_); go_simp; refine hK _ ?_; clear hK K
    refine held_all 9 (by kernel_rfl) ?_
    refine wpOp_call rfl rfl 11 #[.agg #[.slice ka1 xl.length kc1,I xat,.bool xs,I xg,.slice kx1 1 ky1,.slice kg1 xgot.length kh1],I (j : Int),I mk.server.gen,.bool mk.up] (by go_simp) ?_
    have hp:=C1.out.imp fun _ h=>(cn_iff (c:=⟨xl,xat,xs,xg,[bs],xgot⟩)).1 h
    refine (HGO.out ⟨xl,xat,xs,xg,[bs],xgot⟩ _ _ _ (j : Int) mk.server.gen mk.up wa14 (fun k=>(AA k ∨ w6_.heap.size ≤ k) ∧ k ≠ b14) hp.left hp.right.left hp.right.right (good_one GX.out.1 HR.out) (by omega) (by have q:=HLT.out; omega)).to fun r wc2 eg hr=>?_
    rw [HG.out] at hr
    obtain ⟨cs,bv,rfl,hcs,hbv⟩:=rd_tup3 hr
    obtain ⟨x1,x2,x3,rfl,r1,r2,r3⟩:=rd_cn hcs
    obtain ⟨ka6,kc6,q1⟩:=rowOf_slice r1.out
    replace q1 : x1 = .slice ka6 gl.length kc6:=q1
    obtain ⟨kx6,ky6,q2⟩:=rowOf_slice r2.out
    replace q2 : x2 = .slice kx6 0 ky6:=q2
    obtain ⟨kg6,kh6,q3⟩:=rowOf_slice r3.out
    replace q3 : x3 = .slice kg6 ggot.length kh6:=q3
    subst q1 q2 q3
    obtain ⟨pba,pbc,qb⟩:=row_slice hbv.out
    replace qb : bv = .slice pba 0 pbc:=qb
    subst qb
    clear hp hbv
    have C2 : Hid (Rd (fun k=>(AA k ∨ w6_.heap.size ≤ k) ∧ k ≠ b14) (fun w=>elCn w [.slice ka6 gl.length kc6,I gat,.bool gs,I gg,.slice kx6 0 ky6,.slice kg6 ggot.length kh6] ⟨gl,gat,gs,gg,[],ggot⟩) wc2):=hcs.widen fun k _ h=>⟨(by rcases h with h | h; exact h.1; exact .inr (by have q:=EXK.out.size; omega)),(by rcases h with h | h; exact h.2; rintro rfl; have q:=(Array.getElem?_eq_some_iff.1 B_b14.out).1; omega)⟩
    clear hr hcs r1 r2 r3 C1
    replace B_b11:=zbx B_b11 eg
    replace B_b9:=zbx B_b9 eg
    replace B_b14:=zbx B_b14 eg
    replace Q1:=zrx Q1 eg
    replace Q2:=zrx Q2 eg
    replace Q3:=zrx Q3 eg
    replace HBS:=zrx HBS eg
    replace EW:=Lib.hid (EW.out.trans eg)
    replace EXK:=Lib.hid (EXK.out.trans eg)
    clear HSS eg
    refine ⟨_,rfl,⟨B_b11.out,B_b9.out⟩,?_⟩
    have HSS : Hid (wc2.heap[b11]? = some (.cells #[.slice ka0 xl.length kc0,I xat,.bool xs,I xg,.slice kx0 0 ky0,.slice kg0 xgot.length kh0] 51 (0,0)) ∧ wc2.heap[b9]? = some (.cells #[.slice ca mk.store.cells.length cc,.slice ua mk.store.undo.length uc,.slice aa mk.store.answers.length ac,.slice pa mk.store.past.length pc,I mk.server.gen,.slice xa mk.server.box.length xc,.bool mk.server.busy,I mk.server.now.client,I mk.server.now.token,I mk.server.now.call.kind,I mk.server.now.call.name,I mk.server.now.call.other,I mk.server.now.call.n,.slice la mk.server.plan.length lc,I mk.server.says.err,I mk.server.says.n,.bool mk.up,I mk.pause,I mk.falls,.slice (some ⟨kb,ko,none⟩) mk.clients.length kc] 44 (0,0))):=⟨B_b11.out,B_b9.out⟩
    refine held_norm (fun K hK=>?_); go_simp; refine hK _ ?_; clear hK K
    refine held_pure 10 rfl (by kernel_rfl) (by kernel_rfl) (by kernel_rfl) (fun _ _ _ _ h=>h) rfl HSS.out (fun K hK=>?_); go_simp; refine hK _ ?_; clear hK K
    refine held_pure 11 rfl (by kernel_rfl) (by kernel_rfl) (by kernel_rfl) (fun _ _ _ _ h=>h) rfl HSS.out (fun K hK=>?_); go_simp; refine hK _ ?_; clear hK K
    refine held_pure 12 rfl (by kernel_rfl) (by kernel_rfl) (by kernel_rfl) (fun _ _ _ _ h=>h) rfl HSS.out (fun K hK=>?_); go_simp; refine hK _ ?_; clear hK K
    refine held_pure 13 rfl (by kernel_rfl) (by kernel_rfl) (by kernel_rfl) (fun _ _ _ _ h=>h) rfl HSS.out (fun K hK=>?_); go_simp; refine hK _ ?_; clear hK K
    refine held_storeW 15 (by kernel_rfl) rfl rfl 51 (.tmp 14) (.tmp 68) rfl b14 rfl [.slice ka6 gl.length kc6,I gat,.bool gs,I gg,.slice kx6 0 ky6,.slice kg6 ggot.length kh6] rfl B_b14 rfl (by kernel_rfl) rfl (fun ws MS=>⟨⟨MS.out.old B_b11.out (Nat.ne_of_lt D_b11_b14.out),MS.out.old B_b9.out (Nat.ne_of_lt D_b9_b14.out)⟩,?_⟩)
    replace C2:=Lib.hid (MS.out.rd C2.out (fun h=>h.2 rfl))
    replace B_b11:=zwl MS B_b11 D_b11_b14
    replace B_b9:=zwl MS B_b9 D_b9_b14
    replace B_b14:=zwb MS
    replace EXK:=Lib.hid (MS.out.ext EXK.out HB_b14.out)
    clear HSS
    have HSS : Hid (ws.heap[b11]? = some (.cells #[.slice ka0 xl.length kc0,I xat,.bool xs,I xg,.slice kx0 0 ky0,.slice kg0 xgot.length kh0] 51 (0,0)) ∧ ws.heap[b9]? = some (.cells #[.slice ca mk.store.cells.length cc,.slice ua mk.store.undo.length uc,.slice aa mk.store.answers.length ac,.slice pa mk.store.past.length pc,I mk.server.gen,.slice xa mk.server.box.length xc,.bool mk.server.busy,I mk.server.now.client,I mk.server.now.token,I mk.server.now.call.kind,I mk.server.now.call.name,I mk.server.now.call.other,I mk.server.now.call.n,.slice la mk.server.plan.length lc,I mk.server.says.err,I mk.server.says.n,.bool mk.up,I mk.pause,I mk.falls,.slice (some ⟨kb,ko,none⟩) mk.clients.length kc] 44 (0,0))):=⟨B_b11.out,B_b9.out⟩
    refine held_norm (fun K hK=>?_); go_simp; refine hK _ ?_; clear hK K
    refine held_value 16 (by kernel_rfl) rfl rfl _ rfl HSS.out ?_
    refine held_norm (fun K hK=>?_); go_simp; refine hK _ ?_; clear hK K
    refine held_value 17 (by kernel_rfl) rfl rfl _ rfl HSS.out ?_
    refine held_norm (fun K hK=>?_); go_simp; refine hK _ ?_; clear hK K
    refine wpAnyH_done (by kernel_rfl) ?_ _
    clear HSS
    go_wp2_with fail
    go_meet
    case rel=>exact ⟨b14,_,_,_,_,_,_,_,_,rfl,rfl,rfl,HB_b14.out,B_b14.out,EXK.out,C2.out.widen fun k _ h=>h.2⟩
  ·refine wpOp_alloc rfl rfl 51 #[.slice none 0 0,I 0,.bool false,I 0,.slice none 0 0,.slice none 0 0] (by kernel_rfl) (fun b14 wa14 MA14=>⟨⟨MA14.out.old B_b11.out,MA14.out.old B_b9.out⟩,?_⟩)
   have HB_b14 : Hid (w6_.heap.size ≤ b14):=by unfold Hid; have q:=MA14.out.at_; have q3:=EXK.out.size; omega
   have D_b11_b14:=zld B_b11 MA14
   have D_b9_b14:=zld B_b9 MA14
   replace Q1:=Lib.hid (Q1.out.ext MA14.out.ext)
   replace Q2:=Lib.hid (Q2.out.ext MA14.out.ext)
   replace Q3:=Lib.hid (Q3.out.ext MA14.out.ext)
   replace HBS:=Lib.hid (HBS.out.ext MA14.out.ext)
   replace B_b11:=zmo MA14 B_b11
   replace B_b9:=zmo MA14 B_b9
   have B_b14:=zmb MA14
   replace EXK:=zet EXK MA14
   replace EW:=zet EW MA14
   clear HSS
   have HSS : Hid (wa14.heap[b11]? = some (.cells #[.slice ka0 xl.length kc0,I xat,.bool xs,I xg,.slice kx0 0 ky0,.slice kg0 xgot.length kh0] 51 (0,0)) ∧ wa14.heap[b9]? = some (.cells #[.slice ca mk.store.cells.length cc,.slice ua mk.store.undo.length uc,.slice aa mk.store.answers.length ac,.slice pa mk.store.past.length pc,I mk.server.gen,.slice xa mk.server.box.length xc,.bool mk.server.busy,I mk.server.now.client,I mk.server.now.token,I mk.server.now.call.kind,I mk.server.now.call.name,I mk.server.now.call.other,I mk.server.now.call.n,.slice la mk.server.plan.length lc,I mk.server.says.err,I mk.server.says.n,.bool mk.up,I mk.pause,I mk.falls,.slice (some ⟨kb,ko,none⟩) mk.clients.length kc] 44 (0,0))):=⟨B_b11.out,B_b9.out⟩
   refine held_norm (fun K hK=>?_); go_simp; refine hK _ ?_; clear hK K
   refine held_all 2 (by kernel_rfl) ?_
   refine wpOp_call rfl rfl 8 #[.agg #[.slice ka0 xl.length kc0,I xat,.bool xs,I xg,.slice kx0 0 ky0,.slice kg0 xgot.length kh0],.slice ba bs.length bc] (by go_simp) ?_
   refine (HCO.out ⟨xl,xat,xs,xg,[],xgot⟩ _ _ _ _ bs wa14 AA Q1.out Q2.out Q3.out HBS.out GX.out.1 HR.out).to fun r wc1 eg hr=>?_
   rw [come_one] at hr
   obtain ⟨cs,rfl,hcs⟩:=rd_agg hr
   obtain ⟨x1,x2,x3,rfl,r1,r2,r3⟩:=rd_cn hcs
   obtain ⟨ka1,kc1,q1⟩:=rowOf_slice r1.out
   replace q1 : x1 = .slice ka1 xl.length kc1:=q1
   obtain ⟨kx1,ky1,q2⟩:=rowOf_slice r2.out
   replace q2 : x2 = .slice kx1 1 ky1:=q2
   obtain ⟨kg1,kh1,q3⟩:=rowOf_slice r3.out
   replace q3 : x3 = .slice kg1 xgot.length kh1:=q3
   subst q1 q2 q3
   have C1 : Hid (Rd (fun k=>(AA k ∨ w6_.heap.size ≤ k) ∧ k ≠ b14) (fun w=>elCn w [.slice ka1 xl.length kc1,I xat,.bool xs,I xg,.slice kx1 1 ky1,.slice kg1 xgot.length kh1] ⟨xl,xat,xs,xg,[bs],xgot⟩) wc1):=hcs.widen fun k _ h=>⟨(by rcases h with h | h; exact .inl h; exact .inr (by have q:=EXK.out.size; omega)),(by rintro rfl; rcases h with h | h; have q:=SZA.out _ h; have q2:=HB_b14.out; omega; have q:=(Array.getElem?_eq_some_iff.1 B_b14.out).1; omega)⟩
   clear hr hcs r1 r2 r3
   replace B_b11:=zbx B_b11 eg
   replace B_b9:=zbx B_b9 eg
   replace B_b14:=zbx B_b14 eg
   replace Q1:=zrx Q1 eg
   replace Q2:=zrx Q2 eg
   replace Q3:=zrx Q3 eg
   replace HBS:=zrx HBS eg
   replace EW:=Lib.hid (EW.out.trans eg)
   replace EXK:=Lib.hid (EXK.out.trans eg)
   clear HSS eg
   refine ⟨_,rfl,⟨B_b11.out,B_b9.out⟩,?_⟩
   have HSS : Hid (wc1.heap[b11]? = some (.cells #[.slice ka0 xl.length kc0,I xat,.bool xs,I xg,.slice kx0 0 ky0,.slice kg0 xgot.length kh0] 51 (0,0)) ∧ wc1.heap[b9]? = some (.cells #[.slice ca mk.store.cells.length cc,.slice ua mk.store.undo.length uc,.slice aa mk.store.answers.length ac,.slice pa mk.store.past.length pc,I mk.server.gen,.slice xa mk.server.box.length xc,.bool mk.server.busy,I mk.server.now.client,I mk.server.now.token,I mk.server.now.call.kind,I mk.server.now.call.name,I mk.server.now.call.other,I mk.server.now.call.n,.slice la mk.server.plan.length lc,I mk.server.says.err,I mk.server.says.n,.bool mk.up,I mk.pause,I mk.falls,.slice (some ⟨kb,ko,none⟩) mk.clients.length kc] 44 (0,0))):=⟨B_b11.out,B_b9.out⟩
   refine held_norm (fun K hK=>?_); go_simp; refine hK _ ?_; clear hK K
   refine held_all 9 (by kernel_rfl) ?_
   refine wpOp_call rfl rfl 11 #[.agg #[.slice ka1 xl.length kc1,I xat,.bool xs,I xg,.slice kx1 1 ky1,.slice kg1 xgot.length kh1],I (j : Int),I mk.server.gen,.bool mk.up] (by go_simp) ?_
   have hp:=C1.out.imp fun _ h=>(cn_iff (c:=⟨xl,xat,xs,xg,[bs],xgot⟩)).1 h
   refine (HGO.out ⟨xl,xat,xs,xg,[bs],xgot⟩ _ _ _ (j : Int) mk.server.gen mk.up wc1 (fun k=>(AA k ∨ w6_.heap.size ≤ k) ∧ k ≠ b14) hp.left hp.right.left hp.right.right (good_one GX.out.1 HR.out) (by omega) (by have q:=HLT.out; omega)).to fun r wc2 eg hr=>?_
   rw [HG.out] at hr
   obtain ⟨cs,bv,rfl,hcs,hbv⟩:=rd_tup3 hr
   obtain ⟨x1,x2,x3,rfl,r1,r2,r3⟩:=rd_cn hcs
   obtain ⟨ka6,kc6,q1⟩:=rowOf_slice r1.out
   replace q1 : x1 = .slice ka6 gl.length kc6:=q1
   obtain ⟨kx6,ky6,q2⟩:=rowOf_slice r2.out
   replace q2 : x2 = .slice kx6 0 ky6:=q2
   obtain ⟨kg6,kh6,q3⟩:=rowOf_slice r3.out
   replace q3 : x3 = .slice kg6 ggot.length kh6:=q3
   subst q1 q2 q3
   obtain ⟨pba,pbc,qb⟩:=row_slice hbv.out
   replace qb : bv = .slice pba 0 pbc:=qb
   subst qb
   clear hp hbv
   have C2 : Hid (Rd (fun k=>(AA k ∨ w6_.heap.size ≤ k) ∧ k ≠ b14) (fun w=>elCn w [.slice ka6 gl.length kc6,I gat,.bool gs,I gg,.slice kx6 0 ky6,.slice kg6 ggot.length kh6] ⟨gl,gat,gs,gg,[],ggot⟩) wc2):=hcs.widen fun k _ h=>⟨(by rcases h with h | h; exact h.1; exact .inr (by have q:=EXK.out.size; omega)),(by rcases h with h | h; exact h.2; rintro rfl; have q:=(Array.getElem?_eq_some_iff.1 B_b14.out).1; omega)⟩
   clear hr hcs r1 r2 r3 C1
   replace B_b11:=zbx B_b11 eg
   replace B_b9:=zbx B_b9 eg
   replace B_b14:=zbx B_b14 eg
   replace Q1:=zrx Q1 eg
   replace Q2:=zrx Q2 eg
   replace Q3:=zrx Q3 eg
   replace HBS:=zrx HBS eg
   replace EW:=Lib.hid (EW.out.trans eg)
   replace EXK:=Lib.hid (EXK.out.trans eg)
   clear HSS eg
   refine ⟨_,rfl,⟨B_b11.out,B_b9.out⟩,?_⟩
   have HSS : Hid (wc2.heap[b11]? = some (.cells #[.slice ka0 xl.length kc0,I xat,.bool xs,I xg,.slice kx0 0 ky0,.slice kg0 xgot.length kh0] 51 (0,0)) ∧ wc2.heap[b9]? = some (.cells #[.slice ca mk.store.cells.length cc,.slice ua mk.store.undo.length uc,.slice aa mk.store.answers.length ac,.slice pa mk.store.past.length pc,I mk.server.gen,.slice xa mk.server.box.length xc,.bool mk.server.busy,I mk.server.now.client,I mk.server.now.token,I mk.server.now.call.kind,I mk.server.now.call.name,I mk.server.now.call.other,I mk.server.now.call.n,.slice la mk.server.plan.length lc,I mk.server.says.err,I mk.server.says.n,.bool mk.up,I mk.pause,I mk.falls,.slice (some ⟨kb,ko,none⟩) mk.clients.length kc] 44 (0,0))):=⟨B_b11.out,B_b9.out⟩
   refine held_norm (fun K hK=>?_); go_simp; refine hK _ ?_; clear hK K
   refine held_pure 10 rfl (by kernel_rfl) (by kernel_rfl) (by kernel_rfl) (fun _ _ _ _ h=>h) rfl HSS.out (fun K hK=>?_); go_simp; refine hK _ ?_; clear hK K
   refine held_pure 11 rfl (by kernel_rfl) (by kernel_rfl) (by kernel_rfl) (fun _ _ _ _ h=>h) rfl HSS.out (fun K hK=>?_); go_simp; refine hK _ ?_; clear hK K
   refine held_pure 12 rfl (by kernel_rfl) (by kernel_rfl) (by kernel_rfl) (fun _ _ _ _ h=>h) rfl HSS.out (fun K hK=>?_); go_simp; refine hK _ ?_; clear hK K
   refine held_pure 13 rfl (by kernel_rfl) (by kernel_rfl) (by kernel_rfl) (fun _ _ _ _ h=>h) rfl HSS.out (fun K hK=>?_); go_simp; refine hK _ ?_; clear hK K
   refine held_storeW 15 (by kernel_rfl) rfl rfl 51 (.tmp 14) (.tmp 68) rfl b14 rfl [.slice ka6 gl.length kc6,I gat,.bool gs,I gg,.slice kx6 0 ky6,.slice kg6 ggot.length kh6] rfl B_b14 rfl (by kernel_rfl) rfl (fun ws MS=>⟨⟨MS.out.old B_b11.out (Nat.ne_of_lt D_b11_b14.out),MS.out.old B_b9.out (Nat.ne_of_lt D_b9_b14.out)⟩,?_⟩)
   replace C2:=Lib.hid (MS.out.rd C2.out (fun h=>h.2 rfl))
   replace B_b11:=zwl MS B_b11 D_b11_b14
   replace B_b9:=zwl MS B_b9 D_b9_b14
   replace B_b14:=zwb MS
   replace EXK:=Lib.hid (MS.out.ext EXK.out HB_b14.out)
   clear HSS
   have HSS : Hid (ws.heap[b11]? = some (.cells #[.slice ka0 xl.length kc0,I xat,.bool xs,I xg,.slice kx0 0 ky0,.slice kg0 xgot.length kh0] 51 (0,0)) ∧ ws.heap[b9]? = some (.cells #[.slice ca mk.store.cells.length cc,.slice ua mk.store.undo.length uc,.slice aa mk.store.answers.length ac,.slice pa mk.store.past.length pc,I mk.server.gen,.slice xa mk.server.box.length xc,.bool mk.server.busy,I mk.server.now.client,I mk.server.now.token,I mk.server.now.call.kind,I mk.server.now.call.name,I mk.server.now.call.other,I mk.server.now.call.n,.slice la mk.server.plan.length lc,I mk.server.says.err,I mk.server.says.n,.bool mk.up,I mk.pause,I mk.falls,.slice (some ⟨kb,ko,none⟩) mk.clients.length kc] 44 (0,0))):=⟨B_b11.out,B_b9.out⟩
   refine held_norm (fun K hK=>?_); go_simp; refine hK _ ?_; clear hK K
   refine held_value 16 (by kernel_rfl) rfl rfl _ rfl HSS.out ?_
   refine held_norm (fun K hK=>?_); go_simp; refine hK _ ?_; clear hK K
   refine held_value 17 (by kernel_rfl) rfl rfl _ rfl HSS.out ?_
   refine held_norm (fun K hK=>?_); go_simp; refine hK _ ?_; clear hK K
   refine wpAnyH_done (by kernel_rfl) ?_ _
   clear HSS
   go_wp2_with fail
   go_meet
   case rel=>exact ⟨b14,_,_,_,_,_,_,_,_,rfl,rfl,rfl,HB_b14.out,B_b14.out,EXK.out,C2.out.widen fun k _ h=>h.2⟩
 case rest =>
  rename World=>wc
  obtain ⟨b14,ka6,kc6,kx6,ky6,kg6,kh6,pba,pbc,rfl,rfl,rfl,hb14,hB14,hex,hR⟩:=hcut
  obtain ⟨D,HD⟩ : ∃ D : Nat → Prop,Hid (∀ k,D k ↔ k ≠ b14):=⟨_,fun _=>Iff.rfl⟩
  have T6:=Lib.hid (hR.widen (B:=D) fun k _ h=>(HD.out k).2 h)
  have T0:=Lib.hid ((cn_rd (c:=⟨xl,xat,xs,xg,[],xgot⟩) Q1.out Q2.out Q3.out).widen (B:=D) fun k hk _=>(HD.out k).2 (by omega))
  clear Q1 Q2 Q3 HBS B_b9 hR
  replace B_b11:=zbx B_b11 hex
  replace B_b12:=zbx B_b12 hex
  replace T0:=zrx T0 hex
  replace EW:=Lib.hid (EW.out.trans hex)
  clear hex
  have B_b14:=Lib.hid hB14
  clear hB14 hb14
  have x4:=cell_of (i:=4) B_b14.out rfl
  have y0:=cell_of (i:=0) B_b12.out rfl
  have y1:=cell_of (i:=1) B_b12.out rfl
  have z1:=cell_of (i:=1) B_b11.out rfl
  have z2:=cell_of (i:=2) B_b11.out rfl
  by_cases he0 : ee = 0
  case neg =>
   have hno : ¬ (ee = 0 ∧ rc = (j : Int) ∧ rt = xat ∧ xs = true):=fun h=>he0 h.1
   have hgx : gl = xl ∧ gat = xat ∧ gs = xs ∧ gg = xg ∧ ggot = xgot:=by
    have q:=hear_no xl xg xgot (bs:=bs) (me:=(j : Int)) mk.server.gen mk.up HRD.out hno
    rw [HG.out] at q
    simp at q
    exact q
   obtain ⟨rfl,rfl,rfl,rfl,rfl⟩:=hgx
   clear hno
   go_wp2_with ((with_reducible refine zst (L:=[44,41,31,51]) ?_ ?_); exact rfl)
   unfold Hid
   clear x4 y0 y1 z1 z2
   refine wpList_loadW rfl 51 (.tmp 14) rfl b14 rfl B_b14 Try.underlying51 (by kernel_rfl) (fun v104 H_v104=>?_)
   go_wp2_with ((with_reducible refine zst (L:=[44,41,31,51]) ?_ ?_); exact rfl)
   unfold Hid
   refine wpList_loadW rfl 51 (.tmp 11) rfl b11 rfl B_b11 Try.underlying51 (by kernel_rfl) (fun v105 H_v105=>?_)
   go_wp2_with fail
   rw [H_v104.out,H_v105.out]
   clear H_v104 H_v105
   refine Calls.exts (sameClient_eq ⟨gl,gat,gs,gg,[],ggot⟩ _ _ _ _ _ _ wc T6.out.out T0.out.out) (fun w7 e7=>?_)
   replace B_b11:=zbx B_b11 e7
   replace B_b12:=zbx B_b12 e7
   replace B_b14:=zbx B_b14 e7
   replace T0:=zrx T0 e7
   replace T6:=zrx T6 e7
   replace EW:=Lib.hid (EW.out.trans e7)
   clear e7
   go_wp2
   go_ret
   exact ⟨rfl,EW.out⟩
  subst he0
  by_cases hrc : rc = (j : Int)
  case neg =>
   have hno : ¬ ((0 : Int) = 0 ∧ rc = (j : Int) ∧ rt = xat ∧ xs = true):=fun h=>hrc h.2.1
   have hgx : gl = xl ∧ gat = xat ∧ gs = xs ∧ gg = xg ∧ ggot = xgot:=by
    have q:=hear_no xl xg xgot (bs:=bs) (me:=(j : Int)) mk.server.gen mk.up HRD.out hno
    rw [HG.out] at q
    simp at q
    exact q
   obtain ⟨rfl,rfl,rfl,rfl,rfl⟩:=hgx
   clear hno
   go_wp2_with ((with_reducible refine zst (L:=[44,41,31,51]) ?_ ?_); exact rfl)
   unfold Hid
   clear x4 y0 y1 z1 z2
   refine wpList_loadW rfl 51 (.tmp 14) rfl b14 rfl B_b14 Try.underlying51 (by kernel_rfl) (fun v104 H_v104=>?_)
   go_wp2_with ((with_reducible refine zst (L:=[44,41,31,51]) ?_ ?_); exact rfl)
   unfold Hid
   refine wpList_loadW rfl 51 (.tmp 11) rfl b11 rfl B_b11 Try.underlying51 (by kernel_rfl) (fun v105 H_v105=>?_)
   go_wp2_with fail
   rw [H_v104.out,H_v105.out]
   clear H_v104 H_v105
   refine Calls.exts (sameClient_eq ⟨gl,gat,gs,gg,[],ggot⟩ _ _ _ _ _ _ wc T6.out.out T0.out.out) (fun w7 e7=>?_)
   replace B_b11:=zbx B_b11 e7
   replace B_b12:=zbx B_b12 e7
   replace B_b14:=zbx B_b14 e7
   replace T0:=zrx T0 e7
   replace T6:=zrx T6 e7
   replace EW:=Lib.hid (EW.out.trans e7)
   clear e7
   go_wp2
   go_ret
   exact ⟨rfl,EW.out⟩
  subst hrc
  by_cases hrt : rt = xat
  case neg =>
   have hno : ¬ ((0 : Int) = 0 ∧ (j : Int) = (j : Int) ∧ rt = xat ∧ xs = true):=fun h=>hrt h.2.2.1
   have hgx : gl = xl ∧ gat = xat ∧ gs = xs ∧ gg = xg ∧ ggot = xgot:=by
    have q:=hear_no xl xg xgot (bs:=bs) (me:=(j : Int)) mk.server.gen mk.up HRD.out hno
    rw [HG.out] at q
    simp at q
    exact q
   obtain ⟨rfl,rfl,rfl,rfl,rfl⟩:=hgx
   clear hno
   go_wp2_with ((with_reducible refine zst (L:=[44,41,31,51]) ?_ ?_); exact rfl)
   unfold Hid
   clear x4 y0 y1 z1 z2
   refine wpList_loadW rfl 51 (.tmp 14) rfl b14 rfl B_b14 Try.underlying51 (by kernel_rfl) (fun v104 H_v104=>?_)
   go_wp2_with ((with_reducible refine zst (L:=[44,41,31,51]) ?_ ?_); exact rfl)
   unfold Hid
   refine wpList_loadW rfl 51 (.tmp 11) rfl b11 rfl B_b11 Try.underlying51 (by kernel_rfl) (fun v105 H_v105=>?_)
   go_wp2_with fail
   rw [H_v104.out,H_v105.out]
   clear H_v104 H_v105
   refine Calls.exts (sameClient_eq ⟨gl,gat,gs,gg,[],ggot⟩ _ _ _ _ _ _ wc T6.out.out T0.out.out) (fun w7 e7=>?_)
   replace B_b11:=zbx B_b11 e7
   replace B_b12:=zbx B_b12 e7
   replace B_b14:=zbx B_b14 e7
   replace T0:=zrx T0 e7
   replace T6:=zrx T6 e7
   replace EW:=Lib.hid (EW.out.trans e7)
   clear e7
   go_wp2
   go_ret
   exact ⟨rfl,EW.out⟩
  subst hrt
  cases xs
  case false =>
   have hno : ¬ ((0 : Int) = 0 ∧ (j : Int) = (j : Int) ∧ rt = rt ∧ (false = true)):=fun h=>by cases h.2.2.2
   have hgx : gl = xl ∧ gat = rt ∧ gs = false ∧ gg = xg ∧ ggot = xgot:=by
    have q:=hear_no xl xg xgot (bs:=bs) (me:=(j : Int)) mk.server.gen mk.up HRD.out hno
    rw [HG.out] at q
    simp at q
    exact q
   obtain ⟨rfl,rfl,rfl,rfl,rfl⟩:=hgx
   clear hno
   go_wp2_with ((with_reducible refine zst (L:=[44,41,31,51]) ?_ ?_); exact rfl)
   unfold Hid
   clear x4 y0 y1 z1 z2
   refine wpList_loadW rfl 51 (.tmp 14) rfl b14 rfl B_b14 Try.underlying51 (by kernel_rfl) (fun v104 H_v104=>?_)
   go_wp2_with ((with_reducible refine zst (L:=[44,41,31,51]) ?_ ?_); exact rfl)
   unfold Hid
   refine wpList_loadW rfl 51 (.tmp 11) rfl b11 rfl B_b11 Try.underlying51 (by kernel_rfl) (fun v105 H_v105=>?_)
   go_wp2_with fail
   rw [H_v104.out,H_v105.out]
   clear H_v104 H_v105
   refine Calls.exts (sameClient_eq ⟨gl,gat,false,gg,[],ggot⟩ _ _ _ _ _ _ wc T6.out.out T0.out.out) (fun w7 e7=>?_)
   replace B_b11:=zbx B_b11 e7
   replace B_b12:=zbx B_b12 e7
   replace B_b14:=zbx B_b14 e7
   replace T0:=zrx T0 e7
   replace T6:=zrx T6 e7
   replace EW:=Lib.hid (EW.out.trans e7)
   clear e7
   go_wp2
   go_ret
   exact ⟨rfl,EW.out⟩
  obtain ⟨rfl,rfl,rfl,rfl,rfl⟩ : gl = xl ∧ gat = rt + 1 ∧ gs = false ∧ gg = xg ∧ ggot = xgot ++ [⟨re,rn⟩]:=by
   have q:=hear_yes xl xg xgot (bs:=bs) (me:=(j : Int)) mk.server.gen mk.up HRD.out rfl rfl rfl rfl
   rw [HG.out] at q
   simp at q
   exact q
  have hgr:=((cn_iff (c:=⟨gl,rt + 1,false,gg,[],xgot ++ [⟨re,rn⟩]⟩)).1 T6.out.out).2.2
  obtain ⟨ga,gc,qg,-,-,hfm⟩:=form_sameRp hgr
  obtain ⟨gb,go,rfl,hc0,hc1⟩:=hfm xgot.length ⟨re,rn⟩ (by simp)
  simp only [Value.slice.injEq,true_and] at qg
  obtain ⟨rfl,rfl⟩:=qg
  simp only [] at hc0 hc1
  have f5 : wc.cell? ⟨b14,5,none⟩ = some (.slice (some ⟨gb,go,none⟩) (xgot.length + 1) kh6):=by have q:=cell_of (i:=5) B_b14.out rfl; rw [List.length_append] at q; exact q
  have f1 : wc.cell? ⟨b14,1,none⟩ = some (I (rt + 1)):=cell_of (i:=1) B_b14.out rfl
  have f2 : wc.cell? ⟨b14,2,none⟩ = some (.bool false):=cell_of (i:=2) B_b14.out rfl
  have e5 : wc.cell? ⟨b11,5,none⟩ = some (.slice kg0 xgot.length kh0):=cell_of (i:=5) B_b11.out rfl
  have e1 : wc.cell? ⟨b11,1,none⟩ = some (I rt):=cell_of (i:=1) B_b11.out rfl
  have a2 : wc.cell? ⟨b12,2,none⟩ = some (I re):=cell_of (i:=2) B_b12.out rfl
  have a3 : wc.cell? ⟨b12,3,none⟩ = some (I rn):=cell_of (i:=3) B_b12.out rfl
  have hst : Try.prog.stoodInHeld 39 = false:=by kernel_rfl
  have hgd : Try.prog.eqGuardType Try.prog.depth 39 = false:=by kernel_rfl
  have hgl : xgot.length ≤ 900:=GX.out.1.got
  have hra : rt ≤ 900:=GX.out.1.at1
  have hra0 : 0 ≤ rt:=GX.out.1.at0
  have hw1 : IntKind.i64.wrap (rt + 1) = rt + 1:=by rw [IntKind.wrap_i64]; omega
  have hw2 : IntKind.i64.wrap ((xgot.length : Int) + 1) = (xgot.length : Int) + 1:=by rw [IntKind.wrap_i64]; omega
  have hli : (xgot.length : Int) < (xgot.length : Int) + 1:=by omega
  have hl0 : (0 : Int) ≤ (xgot.length : Int):=by omega
  clear hgr hfm hgl hra hra0
  go_wp2_with fail
  clear x4 y0 y1 z1 z2
  refine wp_region_mono [none,none,none,none,none,none,none,none,none,none,none,none,none,none,none,none,none,none,none,none,none,none,none,none,none,none,none,none,none,none,none,none,none,none] (by kernel_rfl) (by kernel_rfl) ?_ ?_
  ·exact ⟨trivial,trivial,trivial,trivial,trivial,trivial,trivial,trivial,trivial,trivial,trivial,trivial,trivial,trivial,trivial,trivial,trivial,trivial,trivial,trivial,trivial,trivial,trivial,trivial,trivial,trivial,trivial,trivial,trivial,trivial,trivial,trivial,trivial,trivial,trivial⟩
  iterate 1 (refine wpM_p (fun K hK=>?_); go_simp; first | refine hK _ ?_ | refine ⟨(fun h=>by cases h),hK _ ?_⟩; clear hK K)
  refine wpM_q (I (rt + 1)) rfl (fun w' hw'=>by have:=hw'.cell f1; go_simp) ?_
  refine wpM_norm (fun K hK=>?_); go_simp; refine hK _ ?_; clear hK K
  iterate 1 (refine wpM_p (fun K hK=>?_); go_simp; first | refine hK _ ?_ | refine ⟨(fun h=>by cases h),hK _ ?_⟩; clear hK K)
  refine wpM_q (I rt) rfl (fun w' hw'=>by have:=hw'.cell e1; go_simp) ?_
  refine wpM_norm (fun K hK=>?_); go_simp; refine hK _ ?_; clear hK K
  iterate 4 (refine wpM_p (fun K hK=>?_); go_simp; first | refine hK _ ?_ | refine ⟨(fun h=>by cases h),hK _ ?_⟩; clear hK K)
  refine wpM_q (.slice (some ⟨gb,go,none⟩) (xgot.length + 1) kh6) rfl (fun w' hw'=>by have:=hw'.cell f5; go_simp) ?_
  refine wpM_norm (fun K hK=>?_); go_simp; refine hK _ ?_; clear hK K
  iterate 2 (refine wpM_p (fun K hK=>?_); go_simp; first | refine hK _ ?_ | refine ⟨(fun h=>by cases h),hK _ ?_⟩; clear hK K)
  refine wpM_q (.slice kg0 xgot.length kh0) rfl (fun w' hw'=>by have:=hw'.cell e5; go_simp) ?_
  refine wpM_norm (fun K hK=>?_); go_simp; refine hK _ ?_; clear hK K
  iterate 6 (refine wpM_p (fun K hK=>?_); go_simp; first | refine hK _ ?_ | refine ⟨(fun h=>by cases h),hK _ ?_⟩; clear hK K)
  refine wpM_q (.slice (some ⟨gb,go,none⟩) (xgot.length + 1) kh6) rfl (fun w' hw'=>by have:=hw'.cell f5; go_simp) ?_
  refine wpM_norm (fun K hK=>?_); go_simp; refine hK _ ?_; clear hK K
  iterate 1 (refine wpM_p (fun K hK=>?_); go_simp; first | refine hK _ ?_ | refine ⟨(fun h=>by cases h),hK _ ?_⟩; clear hK K)
  refine wpM_q (.slice kg0 xgot.length kh0) rfl (fun w' hw'=>by have:=hw'.cell e5; go_simp) ?_
  refine wpM_norm (fun K hK=>?_); go_simp; refine hK _ ?_; clear hK K
  iterate 2 (refine wpM_p (fun K hK=>?_); go_simp; first | refine hK _ ?_ | refine ⟨(fun h=>by cases h),hK _ ?_⟩; clear hK K)
  refine wpM_q (.agg #[I re,I rn]) rfl (fun w' hw'=>by have q1:=hw'.cell hc0; have q2:=hw'.cell hc1; go_simp) ?_
  refine wpM_norm (fun K hK=>?_); go_simp; refine hK _ ?_; clear hK K
  iterate 1 (refine wpM_p (fun K hK=>?_); go_simp; first | refine hK _ ?_ | refine ⟨(fun h=>by cases h),hK _ ?_⟩; clear hK K)
  refine wpM_q (.agg #[I re,I rn]) rfl (fun w' hw'=>by have q1:=hw'.cell a2; have q2:=hw'.cell a3; go_simp) ?_
  refine wpM_norm (fun K hK=>?_); go_simp; refine hK _ ?_; clear hK K
  iterate 4 (refine wpM_p (fun K hK=>?_); go_simp; first | refine hK _ ?_ | refine ⟨(fun h=>by cases h),hK _ ?_⟩; clear hK K)
  refine wpM_q (.bool false) rfl (fun w' hw'=>by have:=hw'.cell f2; go_simp) ?_
  refine wpM_norm (fun K hK=>?_); go_simp; refine hK _ ?_; clear hK K
  iterate 3 (refine wpM_p (fun K hK=>?_); go_simp; first | refine hK _ ?_ | refine ⟨(fun h=>by cases h),hK _ ?_⟩; clear hK K)
  refine wpM_nil ?_
  intro w6 e6 _
  replace B_b11:=zbx B_b11 e6
  replace B_b12:=zbx B_b12 e6
  replace B_b14:=zbx B_b14 e6
  replace T0:=zrx T0 e6
  replace T6:=zrx T6 e6
  replace EW:=Lib.hid (EW.out.trans e6)
  clear e6
  go_wp2
  go_ret
  exact ⟨rfl,EW.out⟩

end Go.Proofs.Ytdmipnnfoolelae
