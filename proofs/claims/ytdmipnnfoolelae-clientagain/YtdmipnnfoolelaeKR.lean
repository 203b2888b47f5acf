/- Texts of the proof, merged: C9. -/
import Derived.Test.YtdmipnnfoolelaeKQ

namespace Go.Proofs.Ytdmipnnfoolelae
open Go.RowKit Go.Mk

set_option maxRecDepth 100000 in
set_option maxHeartbeats 4000000 in
theorem GoC_hear (cl : List Cl) (at_ : Int) (sent : Bool) (gen : Int) (b : List UInt8) (l : List (List UInt8)) (gl : List Rp) (calls box got : Value) (me gen2 : Int) (up : Bool) (w : World) (A : Nat → Prop) (hc : Rd A (fun w=>RowOf 4 elCl w calls cl) w) (hb : Rd A (fun w=>RowOf 1 elBs w box (b :: l)) w) (hg : Rd A (fun w=>RowOf 2 elRp w got gl) w) (hgd : GoodC ⟨cl,at_,sent,gen,(b :: l),gl⟩) :
  Keeps Try.prog 11 #[.agg #[calls,I at_,.bool sent,I gen,box,got],I me,I gen2,.bool up] w A (fun r w'=>Tup3 elCn (goCn ⟨cl,at_,sent,gen,(b :: l),gl⟩ me gen2 up).1 (goCn ⟨cl,at_,sent,gen,(b :: l),gl⟩ me gen2 up).2.1 (goCn ⟨cl,at_,sent,gen,(b :: l),gl⟩ me gen2 up).2.2 r w'):=by
 unfold Keeps
 have HS:=Lib.hid hgd.small
 have h0 : 0 ≤ at_:=hgd.at0
 have h1 : at_ ≤ 900:=hgd.at1
 have hgl : gl.length ≤ 900:=hgd.got
 have HGL:=Lib.hid hgl
 clear hgd hgl
 obtain ⟨xa,xc,hbx⟩:=rowOf_slice hb.out
 replace hbx : box = .slice xa (l.length + 1) xc:=hbx
 subst hbx
 obtain ⟨ka,kc,rfl⟩:=rowOf_slice hc.out
 obtain ⟨ga,gc,rfl⟩:=rowOf_slice hg.out
 have H1:=Lib.hid hc.out
 have H2:=Lib.hid hb.out
 have H3:=Lib.hid hg.out
 clear hb hc hg
 have EW:=Lib.hid (Ext.refl w)
 obtain ⟨B,hB⟩:=away A w.heap.size 2
 have HK:=Lib.hid hB
 clear hB
 obtain ⟨c',hc'⟩ : ∃ c',hearC cl at_ sent gen b l gl me = c':=⟨_,rfl⟩
 rw [go_hear,hc']
 have HC':=Lib.hid hc'
 clear hc'
 obtain ⟨cl',at',sent',gen',bl',gl'⟩:=c'
 go_enter Try.func11,Try.ntmps11
 go_wp2_with ((with_reducible refine zst (L:=[44,41,31,51]) ?_ ?_); exact rfl)
 unfold Hid
 refine wpList_boxB rfl 51 (.tmp 0) rfl #[.slice ka cl.length kc,I at_,.bool sent,I gen,.slice xa (l.length + 1) xc,.slice ga gl.length gc] rfl (fun b0 w1_ M1=>?_)
 have B_b0:=zmb M1
 replace EW:=zet EW M1
 go_wp2_with ((with_reducible refine zst (L:=[44,41,31,51]) ?_ ?_); exact rfl)
 unfold Hid
 refine wpList_allocB rfl 51 #[.slice none 0 0,I 0,.bool false,I 0,.slice none 0 0,.slice none 0 0] (by kernel_rfl) (fun b1 w2_ M2=>?_)
 have D_b0_b1:=zld B_b0 M2
 replace B_b0:=zmo M2 B_b0
 have B_b1:=zmb M2
 replace EW:=zet EW M2
 have A_b0 : Hid (b0 = w.heap.size + 0):=by unfold Hid; have q0:=M1.out.at_; have r0:=M1.out.size; omega
 have N_b0:=znb HK A_b0 (by decide)
 have O_b0:=zob A_b0
 have A_b1 : Hid (b1 = w.heap.size + 1):=by unfold Hid; have q0:=M1.out.at_; have r0:=M1.out.size; have q1:=M2.out.at_; have r1:=M2.out.size; omega
 have N_b1:=znb HK A_b1 (by decide)
 have O_b1:=zob A_b1
 go_wp2_with ((with_reducible refine zst (L:=[44,41,31,51]) ?_ ?_); exact rfl)
 unfold Hid
 refine wpList_loadW rfl 51 (.tmp 4) rfl b0 rfl B_b0 Try.underlying51 (by kernel_rfl) (fun v14 H_v14=>?_)
 go_wp2_with fail
 rw [show _ = Value.agg #[.slice ka cl.length kc,I at_,.bool sent,I gen,.slice xa (l.length + 1) xc,.slice ga gl.length gc] from H_v14.out]
 clear H_v14
 have hin : ∀ k,w2_.heap.size ≤ k → B k:=fun k h=>HK.out.2.1 k (by have q:=(Array.getElem?_eq_some_iff.1 B_b1.out).1; have q2:=A_b1.out; omega)
 refine (OwnClient_own ⟨cl,at_,sent,gen,(b :: l),gl⟩ _ _ _ w2_ (H1.out.ext monoCl EW.out) (H2.out.ext monoBs EW.out) (H3.out.ext monoRp EW.out) HS.out).to fun r wo eo hr=>?_
 obtain ⟨kg,xg,gg,er,ho⟩:=hr
 replace er : r = .agg #[.slice (some ⟨kg,0,none⟩) cl.length cl.length,I at_,.bool sent,I gen,.slice (some ⟨xg,0,none⟩) (l.length + 1) (l.length + 1),.slice (some ⟨gg,0,none⟩) gl.length gl.length]:=er
 subst er
 have HC : Hid (Rd B (fun w=>RowOf 4 elCl w (.slice (some ⟨kg,0,none⟩) cl.length cl.length) cl) wo):=Lib.hid ((rd_cls ho.calls).widen fun k _ h=>hin k h)
 have HB : Hid (Rd B (fun w=>RowOf 1 elBs w (.slice (some ⟨xg,0,none⟩) (l.length + 1) (l.length + 1)) (b :: l)) wo):=Lib.hid (ho.box.rd fun k h _=>hin k h)
 have HG : Hid (Rd B (fun w=>RowOf 2 elRp w (.slice (some ⟨gg,0,none⟩) gl.length gl.length) gl) wo):=Lib.hid ((rd_rps ho.got).widen fun k _ h=>hin k h)
 have OPg : Hid (wo.ownsRow w2_.heap.size 39 2 (.slice (some ⟨gg,0,none⟩) gl.length gl.length) gl.length (cellsR gl)):=Lib.hid ho.got
 clear ho hin
 replace B_b0:=zbx B_b0 eo
 replace B_b1:=zbx B_b1 eo
 replace EW:=Lib.hid (EW.out.trans eo)
 clear eo
 go_wp2_with ((with_reducible refine zst (L:=[44,41,31,51]) ?_ ?_); exact rfl)
 unfold Hid
 refine wpList_allocB rfl 51 #[.slice none 0 0,I 0,.bool false,I 0,.slice none 0 0,.slice none 0 0] (by kernel_rfl) (fun b3 w3_ M3=>?_)
 have D_b0_b3:=zld B_b0 M3
 have D_b1_b3:=zld B_b1 M3
 obtain ⟨B1,HB1⟩ : ∃ X : Nat → Prop,Hid (∀ k,X k ↔ (B k ∧ k ≠ b3)):=⟨_,fun _=>Iff.rfl⟩
 replace HC:=zmd HB1 M3 HC
 replace HB:=zmd HB1 M3 HB
 replace HG:=zmd HB1 M3 HG
 replace N_b0:=znw HB1 N_b0
 replace N_b1:=znw HB1 N_b1
 have N_b3 : Hid (¬ B1 b3):=fun h=>((HB1.out _).1 h).2 rfl
 have I_B1 : Hid (∀ k,B1 k → B k):=fun k h=>((HB1.out k).1 h).1
 have O_b3 : Hid (w.heap.size ≤ b3):=by unfold Hid; have q2:=M3.out.at_; have q3:=EW.out.size; omega
 replace B_b0:=zmo M3 B_b0
 replace B_b1:=zmo M3 B_b1
 have B_b3:=zmb M3
 replace HC:=zme M3 HC
 replace HB:=zme M3 HB
 replace HG:=zme M3 HG
 replace OPg:=Lib.hid (owns_ext OPg.out M3.out.ext)
 replace EW:=zet EW M3
 go_wp2_with ((with_reducible refine zst (L:=[44,41,31,51]) ?_ ?_); exact rfl)
 unfold Hid
 refine wpList_storeW rfl 51 (.tmp 11) (.tmp 15) rfl b3 rfl [.slice (some ⟨kg,0,none⟩) cl.length cl.length,I at_,.bool sent,I gen,.slice (some ⟨xg,0,none⟩) (l.length + 1) (l.length + 1),.slice (some ⟨gg,0,none⟩) gl.length gl.length] (rfl) B_b3 rfl (by kernel_rfl) rfl (fun w4_ M4=>?_)
 replace OPg:=Lib.hid (OPg.out.kept M4.out.grown (.inr (own_ne OPg.out B_b3.out (by decide))))
 replace B_b0:=zwl M4 B_b0 D_b0_b3
 replace B_b1:=zwl M4 B_b1 D_b1_b3
 replace B_b3:=zwb M4
 replace HC:=zwr M4 HC N_b3
 replace HB:=zwr M4 HB N_b3
 replace HG:=zwr M4 HG N_b3
 replace EW:=zwe M4 EW O_b3
 have c4:=cell_of (i:=4) B_b0.out rfl
 go_wp2_with ((with_reducible refine zst (L:=[44,41,31,51]) ?_ ?_); exact rfl)
 unfold Hid
 clear c4
 refine wpList_loadW rfl 51 (.tmp 11) rfl b3 rfl B_b3 Try.underlying51 (by kernel_rfl) (fun v20 H_v20=>?_)
 go_wp2_with fail
 rw [show _ = Value.agg #[.slice (some ⟨kg,0,none⟩) cl.length cl.length,I at_,.bool sent,I gen,.slice (some ⟨xg,0,none⟩) (l.length + 1) (l.length + 1),.slice (some ⟨gg,0,none⟩) gl.length gl.length] from H_v20.out]
 clear H_v20
 refine (hear_keeps cl at_ sent gen b l gl _ _ gg w2_.heap.size me w4_ B1 HC.out HB.out HG.out OPg.out h0 (by omega) (by have:=HGL.out; omega)).to fun r wh eh hr=>?_
 rw [HC'.out] at hr
 obtain ⟨cs,rfl,hcs⟩:=rd_agg hr
 obtain ⟨x1,x2,x3,rfl,r1,r2,r3⟩:=rd_cn hcs
 obtain ⟨ya,yc,rfl⟩:=rowOf_slice r1.out
 obtain ⟨za,zc,rfl⟩:=rowOf_slice r2.out
 obtain ⟨ta,tc,rfl⟩:=rowOf_slice r3.out
 have hin2 : ∀ k,k < wh.heap.size → (B1 k ∨ w4_.heap.size ≤ k) → B1 k:=fun k _ h=>by
  rcases h with h | h
  ·exact h
  ·have q:=(Array.getElem?_eq_some_iff.1 B_b1.out).1
   have q2:=A_b1.out
   have q3:=(Array.getElem?_eq_some_iff.1 B_b3.out).1
   exact (HB1.out k).2 ⟨HK.out.2.1 k (by omega),by omega⟩
 have R1:=Lib.hid (r1.widen hin2)
 have R2:=Lib.hid (r2.widen hin2)
 have R3:=Lib.hid (r3.widen hin2)
 clear hr hcs r1 r2 r3 hin2
 replace B_b0:=zbx B_b0 eh
 replace B_b1:=zbx B_b1 eh
 replace B_b3:=zbx B_b3 eh
 replace HC:=zrx HC eh
 replace HB:=zrx HB eh
 replace HG:=zrx HG eh
 replace OPg:=Lib.hid (owns_ext OPg.out eh)
 replace EW:=Lib.hid (EW.out.trans eh)
 clear eh
 go_wp2_with ((with_reducible refine zst (L:=[44,41,31,51]) ?_ ?_); exact rfl)
 unfold Hid
 refine wpList_storeW rfl 51 (.tmp 8) (.tmp 22) rfl b1 rfl [(.slice ya cl'.length yc),I at',.bool sent',I gen',(.slice za bl'.length zc),(.slice ta gl'.length tc)] (rfl) B_b1 rfl (by kernel_rfl) rfl (fun w5_ M5=>?_)
 replace B_b0:=zwl M5 B_b0 D_b0_b1
 replace B_b1:=zwb M5
 replace B_b3:=zwg M5 B_b3 D_b1_b3
 replace R1:=zwr M5 R1 N_b1
 replace R2:=zwr M5 R2 N_b1
 replace R3:=zwr M5 R3 N_b1
 replace EW:=zwe M5 EW O_b1
 go_wp2
 have z0:=run_box (P:=Try.prog) 51 B_b1.out Try.underlying51 (by kernel_rfl)
 refine bodyPost_ret (by simp [results,Try.results11,asAddr,z0]; rfl) rfl ?_
 exact ⟨_,rfl,EW.out,Rd.widen (A:=B1) (tup3_rd (cn_rd (c:=⟨cl',at',sent',gen',bl',gl'⟩) R1.out R2.out R3.out) (Rd.all fun w=>bytes_nil w)) (fun k _ h=>HK.out.2.2.2 k (I_B1.out k h))⟩

set_option maxRecDepth 100000 in
set_option maxHeartbeats 4000000 in
theorem GoC_idle (cl : List Cl) (at_ : Int) (sent : Bool) (gen : Int) (gl : List Rp) (calls box got : Value) (me gen2 : Int) (up : Bool) (w : World) (A : Nat → Prop) (hc : Rd A (fun w=>RowOf 4 elCl w calls cl) w) (hb : Rd A (fun w=>RowOf 1 elBs w box []) w) (hg : Rd A (fun w=>RowOf 2 elRp w got gl) w) (hgd : GoodC ⟨cl,at_,sent,gen,[],gl⟩) :
  Keeps Try.prog 11 #[.agg #[calls,I at_,.bool sent,I gen,box,got],I me,I gen2,.bool up] w A (fun r w'=>Tup3 elCn (goCn ⟨cl,at_,sent,gen,[],gl⟩ me gen2 up).1 (goCn ⟨cl,at_,sent,gen,[],gl⟩ me gen2 up).2.1 (goCn ⟨cl,at_,sent,gen,[],gl⟩ me gen2 up).2.2 r w'):=by
 unfold Keeps
 have HS:=Lib.hid hgd.small
 have h0 : 0 ≤ at_:=hgd.at0
 have h1 : at_ ≤ 900:=hgd.at1
 have hgl : gl.length ≤ 900:=hgd.got
 have HGL:=Lib.hid hgl
 clear hgd hgl
 obtain ⟨xa,xc,hbx⟩:=rowOf_slice hb.out
 replace hbx : box = .slice xa 0 xc:=hbx
 subst hbx
 obtain ⟨ka,kc,rfl⟩:=rowOf_slice hc.out
 obtain ⟨ga,gc,rfl⟩:=rowOf_slice hg.out
 have H1:=Lib.hid hc.out
 have H2:=Lib.hid hb.out
 have H3:=Lib.hid hg.out
 clear hb hc hg
 have EW:=Lib.hid (Ext.refl w)
 obtain ⟨B,hB⟩:=away A w.heap.size 2
 have HK:=Lib.hid hB
 clear hB
 have hX0 : goCn ⟨cl,at_,sent,gen,[],gl⟩ me gen2 up = if (cl.length : Int) ≤ at_ then (⟨cl,at_,sent,gen,[],gl⟩,[],11) else if ¬ up then (⟨cl,at_,sent,gen,[],gl⟩,[],10) else if sent ∧ gen = gen2 then (⟨cl,at_,sent,gen,[],gl⟩,[],12) else (⟨cl,at_,true,gen2,[],gl⟩,reqB ⟨me,at_,cl.getD at_.toNat ⟨0,0,0,0⟩⟩,0):=rfl
 obtain ⟨E,hE⟩ : ∃ e,silentE cl at_ sent gen gen2 up = e:=⟨_,rfl⟩
 have HE:=Lib.hid hE
 by_cases hz : E = 0
 case neg =>
  have hX : goCn ⟨cl,at_,sent,gen,[],gl⟩ me gen2 up = (⟨cl,at_,sent,gen,[],gl⟩,[],E):=by
   rw [hX0,← hE]
   unfold silentE at hE ⊢
   repeat' split
   all_goals first | rfl | (exfalso; simp_all)
  rw [hX]
  have hEb : (E == 0) = false:=by simpa using hz
  clear hX hX0 hE hz
  go_enter Try.func11,Try.ntmps11
  go_wp2_with ((with_reducible refine zst (L:=[44,41,31,51]) ?_ ?_); exact rfl)
  unfold Hid
  refine wpList_boxB rfl 51 (.tmp 0) rfl #[.slice ka cl.length kc,I at_,.bool sent,I gen,.slice xa 0 xc,.slice ga gl.length gc] rfl (fun b0 w1_ M1=>?_)
  have B_b0:=zmb M1
  replace EW:=zet EW M1
  go_wp2_with ((with_reducible refine zst (L:=[44,41,31,51]) ?_ ?_); exact rfl)
  unfold Hid
  refine wpList_allocB rfl 51 #[.slice none 0 0,I 0,.bool false,I 0,.slice none 0 0,.slice none 0 0] (by kernel_rfl) (fun b1 w2_ M2=>?_)
  have D_b0_b1:=zld B_b0 M2
  replace B_b0:=zmo M2 B_b0
  have B_b1:=zmb M2
  replace EW:=zet EW M2
  have A_b0 : Hid (b0 = w.heap.size + 0):=by unfold Hid; have q0:=M1.out.at_; have r0:=M1.out.size; omega
  have N_b0:=znb HK A_b0 (by decide)
  have O_b0:=zob A_b0
  have A_b1 : Hid (b1 = w.heap.size + 1):=by unfold Hid; have q0:=M1.out.at_; have r0:=M1.out.size; have q1:=M2.out.at_; have r1:=M2.out.size; omega
  have N_b1:=znb HK A_b1 (by decide)
  have O_b1:=zob A_b1
  go_wp2_with ((with_reducible refine zst (L:=[44,41,31,51]) ?_ ?_); exact rfl)
  unfold Hid
  refine wpList_loadW rfl 51 (.tmp 4) rfl b0 rfl B_b0 Try.underlying51 (by kernel_rfl) (fun v14 H_v14=>?_)
  go_wp2_with fail
  rw [show _ = Value.agg #[.slice ka cl.length kc,I at_,.bool sent,I gen,.slice xa 0 xc,.slice ga gl.length gc] from H_v14.out]
  clear H_v14
  have hin : ∀ k,w2_.heap.size ≤ k → B k:=fun k h=>HK.out.2.1 k (by have q:=(Array.getElem?_eq_some_iff.1 B_b1.out).1; have q2:=A_b1.out; omega)
  refine (OwnClient_own ⟨cl,at_,sent,gen,[],gl⟩ _ _ _ w2_ (H1.out.ext monoCl EW.out) (H2.out.ext monoBs EW.out) (H3.out.ext monoRp EW.out) HS.out).to fun r wo eo hr=>?_
  obtain ⟨kg,xg,gg,er,ho⟩:=hr
  replace er : r = .agg #[.slice (some ⟨kg,0,none⟩) cl.length cl.length,I at_,.bool sent,I gen,.slice (some ⟨xg,0,none⟩) 0 0,.slice (some ⟨gg,0,none⟩) gl.length gl.length]:=er
  subst er
  have HC : Hid (Rd B (fun w=>RowOf 4 elCl w (.slice (some ⟨kg,0,none⟩) cl.length cl.length) cl) wo):=Lib.hid ((rd_cls ho.calls).widen fun k _ h=>hin k h)
  have HB : Hid (Rd B (fun w=>RowOf 1 elBs w (.slice (some ⟨xg,0,none⟩) 0 0) []) wo):=Lib.hid (ho.box.rd fun k h _=>hin k h)
  have HG : Hid (Rd B (fun w=>RowOf 2 elRp w (.slice (some ⟨gg,0,none⟩) gl.length gl.length) gl) wo):=Lib.hid ((rd_rps ho.got).widen fun k _ h=>hin k h)
  have OPg : Hid (wo.ownsRow w2_.heap.size 39 2 (.slice (some ⟨gg,0,none⟩) gl.length gl.length) gl.length (cellsR gl)):=Lib.hid ho.got
  clear ho hin
  replace B_b0:=zbx B_b0 eo
  replace B_b1:=zbx B_b1 eo
  replace EW:=Lib.hid (EW.out.trans eo)
  clear eo
  go_wp2_with ((with_reducible refine zst (L:=[44,41,31,51]) ?_ ?_); exact rfl)
  unfold Hid
  refine wpList_allocB rfl 51 #[.slice none 0 0,I 0,.bool false,I 0,.slice none 0 0,.slice none 0 0] (by kernel_rfl) (fun b3 w3_ M3=>?_)
  have D_b0_b3:=zld B_b0 M3
  have D_b1_b3:=zld B_b1 M3
  obtain ⟨B1,HB1⟩ : ∃ X : Nat → Prop,Hid (∀ k,X k ↔ (B k ∧ k ≠ b3)):=⟨_,fun _=>Iff.rfl⟩
  replace HC:=zmd HB1 M3 HC
  replace HB:=zmd HB1 M3 HB
  replace HG:=zmd HB1 M3 HG
  replace N_b0:=znw HB1 N_b0
  replace N_b1:=znw HB1 N_b1
  have N_b3 : Hid (¬ B1 b3):=fun h=>((HB1.out _).1 h).2 rfl
  have I_B1 : Hid (∀ k,B1 k → B k):=fun k h=>((HB1.out k).1 h).1
  have O_b3 : Hid (w.heap.size ≤ b3):=by unfold Hid; have q2:=M3.out.at_; have q3:=EW.out.size; omega
  replace B_b0:=zmo M3 B_b0
  replace B_b1:=zmo M3 B_b1
  have B_b3:=zmb M3
  replace HC:=zme M3 HC
  replace HB:=zme M3 HB
  replace HG:=zme M3 HG
  replace OPg:=Lib.hid (owns_ext OPg.out M3.out.ext)
  replace EW:=zet EW M3
  go_wp2_with ((with_reducible refine zst (L:=[44,41,31,51]) ?_ ?_); exact rfl)
  unfold Hid
  refine wpList_storeW rfl 51 (.tmp 11) (.tmp 15) rfl b3 rfl [.slice (some ⟨kg,0,none⟩) cl.length cl.length,I at_,.bool sent,I gen,.slice (some ⟨xg,0,none⟩) 0 0,.slice (some ⟨gg,0,none⟩) gl.length gl.length] (rfl) B_b3 rfl (by kernel_rfl) rfl (fun w4_ M4=>?_)
  replace OPg:=Lib.hid (OPg.out.kept M4.out.grown (.inr (own_ne OPg.out B_b3.out (by decide))))
  replace B_b0:=zwl M4 B_b0 D_b0_b3
  replace B_b1:=zwl M4 B_b1 D_b1_b3
  replace B_b3:=zwb M4
  replace HC:=zwr M4 HC N_b3
  replace HB:=zwr M4 HB N_b3
  replace HG:=zwr M4 HG N_b3
  replace EW:=zwe M4 EW O_b3
  have c4:=cell_of (i:=4) B_b0.out rfl
  go_wp2_with ((with_reducible refine zst (L:=[44,41,31,51]) ?_ ?_); exact rfl)
  unfold Hid
  clear c4
  refine wpList_loadW rfl 51 (.tmp 4) rfl b0 rfl B_b0 Try.underlying51 (by kernel_rfl) (fun v23 H_v23=>?_)
  go_wp2_with fail
  rw [show _ = Value.agg #[.slice ka cl.length kc,I at_,.bool sent,I gen,.slice xa 0 xc,.slice ga gl.length gc] from H_v23.out]
  clear H_v23
  have hl:=silent_any cl ka kc at_ sent gen gen2 up (.slice xa 0 xc) (.slice ga gl.length gc) w4_ h0
  rw [HE.out] at hl
  refine Calls.exts hl (fun ws es=>?_)
  clear hl
  replace B_b0:=zbx B_b0 es
  replace B_b1:=zbx B_b1 es
  replace B_b3:=zbx B_b3 es
  replace HC:=zrx HC es
  replace HB:=zrx HB es
  replace HG:=zrx HG es
  replace OPg:=Lib.hid (owns_ext OPg.out es)
  replace EW:=Lib.hid (EW.out.trans es)
  clear es
  go_wp2_with ((with_reducible refine zst (L:=[44,41,31,51]) ?_ ?_); exact rfl)
  unfold Hid
  clear hEb
  refine wpList_loadW rfl 51 (.tmp 11) rfl b3 rfl B_b3 Try.underlying51 (by kernel_rfl) (fun v29 H_v29=>?_)
  go_wp2_with ((with_reducible refine zst (L:=[44,41,31,51]) ?_ ?_); exact rfl)
  unfold Hid
  refine wpList_storeW rfl 51 (.tmp 8) (.tmp 29) rfl b1 rfl _ (zcv H_v29) B_b1 rfl (by kernel_rfl) rfl (fun w5_ M5=>?_)
  replace OPg:=Lib.hid (OPg.out.kept M5.out.grown (.inr (own_ne OPg.out B_b1.out (by decide))))
  replace B_b0:=zwl M5 B_b0 D_b0_b1
  replace B_b1:=zwb M5
  replace B_b3:=zwg M5 B_b3 D_b1_b3
  replace HC:=zwr M5 HC N_b1
  replace HB:=zwr M5 HB N_b1
  replace HG:=zwr M5 HG N_b1
  replace EW:=zwe M5 EW O_b1
  go_wp2
  have z0:=run_box (P:=Try.prog) 51 B_b1.out Try.underlying51 (by kernel_rfl)
  refine bodyPost_ret (by simp [results,Try.results11,asAddr,z0]; rfl) rfl ?_
  exact ⟨_,rfl,EW.out,Rd.widen (A:=B1) (tup3_rd (cn_rd (c:=⟨cl,at_,sent,gen,[],gl⟩) HC.out HB.out HG.out) (Rd.all fun w=>bytes_nil w)) (fun k _ h=>HK.out.2.2.2 k (I_B1.out k h))⟩
 subst hz
 have hlt : at_ < (cl.length : Int):=by
  unfold silentE at hE
  by_cases h : (cl.length : Int) ≤ at_
  ·rw [if_pos h] at hE; cases hE
  ·omega
 have hX : goCn ⟨cl,at_,sent,gen,[],gl⟩ me gen2 up = (⟨cl,at_,true,gen2,[],gl⟩,reqB ⟨me,at_,cl.getD at_.toNat ⟨0,0,0,0⟩⟩,0):=by
  rw [hX0]
  unfold silentE at hE
  by_cases h1 : (cl.length : Int) ≤ at_
  ·omega
  rw [if_neg h1] at hE ⊢
  by_cases h2 : ¬ up
  ·rw [if_pos h2] at hE; cases hE
  rw [if_neg h2] at hE ⊢
  by_cases h3 : sent ∧ gen = gen2
  ·rw [if_pos h3] at hE; cases hE
  rw [if_neg h3]
 rw [hX]
 clear hX hX0 hE
 obtain ⟨cx,hcx⟩ : ∃ x,cl[at_.toNat]? = some x:=⟨_,List.getElem?_eq_getElem (by omega)⟩
 have hgd : cl.getD at_.toNat ⟨0,0,0,0⟩ = cx:=by simp [hcx]
 rw [hgd]
 clear hgd
 obtain ⟨ao,cap,e1,-,-,-,hform⟩:=H1.out.form (by decide)
 simp only [Value.slice.injEq,true_and] at e1
 obtain ⟨rfl,rfl⟩:=e1
 obtain ⟨xk,xa2,xo,xn⟩:=cx
 obtain ⟨cb,co,c4,rfl,-,hc4,hcell⟩:=hform _ _ hcx
 have hc4 : c4 = [I xk,I xa2,I xo,I xn]:=hc4
 subst hc4
 have HCELL:=Lib.hid hcell
 clear hcell hform hcx
 obtain ⟨j,rfl⟩ : ∃ j : Nat,at_ = (j : Int):=⟨at_.toNat,by omega⟩
 simp only [Int.toNat_natCast] at HCELL
 go_enter Try.func11,Try.ntmps11
 go_wp2_with ((with_reducible refine zst (L:=[44,41,31,51]) ?_ ?_); exact rfl)
 unfold Hid
 refine wpList_boxB rfl 51 (.tmp 0) rfl #[.slice (some ⟨cb,co,none⟩) cl.length kc,I j,.bool sent,I gen,.slice xa 0 xc,.slice ga gl.length gc] rfl (fun b0 w1_ M1=>?_)
 have B_b0:=zmb M1
 replace EW:=zet EW M1
 go_wp2_with ((with_reducible refine zst (L:=[44,41,31,51]) ?_ ?_); exact rfl)
 unfold Hid
 refine wpList_allocB rfl 51 #[.slice none 0 0,I 0,.bool false,I 0,.slice none 0 0,.slice none 0 0] (by kernel_rfl) (fun b1 w2_ M2=>?_)
 have D_b0_b1:=zld B_b0 M2
 replace B_b0:=zmo M2 B_b0
 have B_b1:=zmb M2
 replace EW:=zet EW M2
 have A_b0 : Hid (b0 = w.heap.size + 0):=by unfold Hid; have q0:=M1.out.at_; have r0:=M1.out.size; omega
 have N_b0:=znb HK A_b0 (by decide)
 have O_b0:=zob A_b0
 have A_b1 : Hid (b1 = w.heap.size + 1):=by unfold Hid; have q0:=M1.out.at_; have r0:=M1.out.size; have q1:=M2.out.at_; have r1:=M2.out.size; omega
 have N_b1:=znb HK A_b1 (by decide)
 have O_b1:=zob A_b1
 go_wp2_with ((with_reducible refine zst (L:=[44,41,31,51]) ?_ ?_); exact rfl)
 unfold Hid
 refine wpList_loadW rfl 51 (.tmp 4) rfl b0 rfl B_b0 Try.underlying51 (by kernel_rfl) (fun v14 H_v14=>?_)
 go_wp2_with fail
 rw [show _ = Value.agg #[.slice (some ⟨cb,co,none⟩) cl.length kc,I j,.bool sent,I gen,.slice xa 0 xc,.slice ga gl.length gc] from H_v14.out]
 clear H_v14
 have hin : ∀ k,w2_.heap.size ≤ k → B k:=fun k h=>HK.out.2.1 k (by have q:=(Array.getElem?_eq_some_iff.1 B_b1.out).1; have q2:=A_b1.out; omega)
 refine (OwnClient_own ⟨cl,j,sent,gen,[],gl⟩ _ _ _ w2_ (H1.out.ext monoCl EW.out) (H2.out.ext monoBs EW.out) (H3.out.ext monoRp EW.out) HS.out).to fun r wo eo hr=>?_
 obtain ⟨kg,xg,gg,er,ho⟩:=hr
 replace er : r = .agg #[.slice (some ⟨kg,0,none⟩) cl.length cl.length,I j,.bool sent,I gen,.slice (some ⟨xg,0,none⟩) 0 0,.slice (some ⟨gg,0,none⟩) gl.length gl.length]:=er
 subst er
 have HC : Hid (Rd B (fun w=>RowOf 4 elCl w (.slice (some ⟨kg,0,none⟩) cl.length cl.length) cl) wo):=Lib.hid ((rd_cls ho.calls).widen fun k _ h=>hin k h)
 have HB : Hid (Rd B (fun w=>RowOf 1 elBs w (.slice (some ⟨xg,0,none⟩) 0 0) []) wo):=Lib.hid (ho.box.rd fun k h _=>hin k h)
 have HG : Hid (Rd B (fun w=>RowOf 2 elRp w (.slice (some ⟨gg,0,none⟩) gl.length gl.length) gl) wo):=Lib.hid ((rd_rps ho.got).widen fun k _ h=>hin k h)
 have OPg : Hid (wo.ownsRow w2_.heap.size 39 2 (.slice (some ⟨gg,0,none⟩) gl.length gl.length) gl.length (cellsR gl)):=Lib.hid ho.got
 clear ho hin
 replace B_b0:=zbx B_b0 eo
 replace B_b1:=zbx B_b1 eo
 replace EW:=Lib.hid (EW.out.trans eo)
 clear eo
 go_wp2_with ((with_reducible refine zst (L:=[44,41,31,51]) ?_ ?_); exact rfl)
 unfold Hid
 refine wpList_allocB rfl 51 #[.slice none 0 0,I 0,.bool false,I 0,.slice none 0 0,.slice none 0 0] (by kernel_rfl) (fun b3 w3_ M3=>?_)
 have D_b0_b3:=zld B_b0 M3
 have D_b1_b3:=zld B_b1 M3
 obtain ⟨B1,HB1⟩ : ∃ X : Nat → Prop,Hid (∀ k,X k ↔ (B k ∧ k ≠ b3)):=⟨_,fun _=>Iff.rfl⟩
 replace HC:=zmd HB1 M3 HC
 replace HB:=zmd HB1 M3 HB
 replace HG:=zmd HB1 M3 HG
 replace N_b0:=znw HB1 N_b0
 replace N_b1:=znw HB1 N_b1
 have N_b3 : Hid (¬ B1 b3):=fun h=>((HB1.out _).1 h).2 rfl
 have I_B1 : Hid (∀ k,B1 k → B k):=fun k h=>((HB1.out k).1 h).1
 have O_b3 : Hid (w.heap.size ≤ b3):=by unfold Hid; have q2:=M3.out.at_; have q3:=EW.out.size; omega
 replace B_b0:=zmo M3 B_b0
 replace B_b1:=zmo M3 B_b1
 have B_b3:=zmb M3
 replace HC:=zme M3 HC
 replace HB:=zme M3 HB
 replace HG:=zme M3 HG
 replace OPg:=Lib.hid (owns_ext OPg.out M3.out.ext)
 replace EW:=zet EW M3
 go_wp2_with ((with_reducible refine zst (L:=[44,41,31,51]) ?_ ?_); exact rfl)
 unfold Hid
 refine wpList_storeW rfl 51 (.tmp 11) (.tmp 15) rfl b3 rfl [.slice (some ⟨kg,0,none⟩) cl.length cl.length,I j,.bool sent,I gen,.slice (some ⟨xg,0,none⟩) 0 0,.slice (some ⟨gg,0,none⟩) gl.length gl.length] (rfl) B_b3 rfl (by kernel_rfl) rfl (fun w4_ M4=>?_)
 replace OPg:=Lib.hid (OPg.out.kept M4.out.grown (.inr (own_ne OPg.out B_b3.out (by decide))))
 replace B_b0:=zwl M4 B_b0 D_b0_b3
 replace B_b1:=zwl M4 B_b1 D_b1_b3
 replace B_b3:=zwb M4
 replace HC:=zwr M4 HC N_b3
 replace HB:=zwr M4 HB N_b3
 replace HG:=zwr M4 HG N_b3
 replace EW:=zwe M4 EW O_b3
 have c4:=cell_of (i:=4) B_b0.out rfl
 go_wp2_with ((with_reducible refine zst (L:=[44,41,31,51]) ?_ ?_); exact rfl)
 unfold Hid
 clear c4
 refine wpList_loadW rfl 51 (.tmp 4) rfl b0 rfl B_b0 Try.underlying51 (by kernel_rfl) (fun v23 H_v23=>?_)
 go_wp2_with fail
 rw [show _ = Value.agg #[.slice (some ⟨cb,co,none⟩) cl.length kc,I j,.bool sent,I gen,.slice xa 0 xc,.slice ga gl.length gc] from H_v23.out]
 clear H_v23
 have hl:=silent_any cl (some ⟨cb,co,none⟩) kc j sent gen gen2 up (.slice xa 0 xc) (.slice ga gl.length gc) w4_ h0
 rw [HE.out] at hl
 refine Calls.exts hl (fun ws es=>?_)
 clear hl
 replace B_b0:=zbx B_b0 es
 replace B_b1:=zbx B_b1 es
 replace B_b3:=zbx B_b3 es
 replace HC:=zrx HC es
 replace HB:=zrx HB es
 replace HG:=zrx HG es
 replace OPg:=Lib.hid (owns_ext OPg.out es)
 replace EW:=Lib.hid (EW.out.trans es)
 clear es
 go_wp2_with ((with_reducible refine zst (L:=[44,41,31,51]) ?_ ?_); exact rfl)
 unfold Hid
 refine wpList_storeP rfl 4 (.tmp 32) (.const (.bool true)) rfl b3 2 rfl [.bool true] (rfl) B_b3 rfl (by kernel_rfl) rfl [.slice (some ⟨kg,0,none⟩) cl.length cl.length,I j,.bool true,I gen,.slice (some ⟨xg,0,none⟩) 0 0,.slice (some ⟨gg,0,none⟩) gl.length gl.length] rfl (fun w5_ M5=>?_)
 replace OPg:=Lib.hid (OPg.out.kept M5.out.grown (.inr (own_ne OPg.out B_b3.out (by decide))))
 replace B_b0:=zwl M5 B_b0 D_b0_b3
 replace B_b1:=zwl M5 B_b1 D_b1_b3
 replace B_b3:=zwb M5
 replace HC:=zwr M5 HC N_b3
 replace HB:=zwr M5 HB N_b3
 replace HG:=zwr M5 HG N_b3
 replace EW:=zwe M5 EW O_b3
 go_wp2_with ((with_reducible refine zst (L:=[44,41,31,51]) ?_ ?_); exact rfl)
 unfold Hid
 refine wpList_storeP rfl 3 (.tmp 33) (.tmp 31) rfl b3 3 rfl [I gen2] (rfl) B_b3 rfl (by kernel_rfl) rfl [.slice (some ⟨kg,0,none⟩) cl.length cl.length,I j,.bool true,I gen2,.slice (some ⟨xg,0,none⟩) 0 0,.slice (some ⟨gg,0,none⟩) gl.length gl.length] rfl (fun w6_ M6=>?_)
 replace OPg:=Lib.hid (OPg.out.kept M6.out.grown (.inr (own_ne OPg.out B_b3.out (by decide))))
 replace B_b0:=zwl M6 B_b0 D_b0_b3
 replace B_b1:=zwl M6 B_b1 D_b1_b3
 replace B_b3:=zwb M6
 replace HC:=zwr M6 HC N_b3
 replace HB:=zwr M6 HB N_b3
 replace HG:=zwr M6 HG N_b3
 replace EW:=zwe M6 EW O_b3
 go_wp2_with fail
 have x0:=cell_of (i:=0) B_b0.out rfl
 have x1:=cell_of (i:=1) B_b0.out rfl
 have y0:=EW.out.cell (HCELL.out 0 _ rfl)
 have y1:=EW.out.cell (HCELL.out 1 _ rfl)
 have y2:=EW.out.cell (HCELL.out 2 _ rfl)
 have y3:=EW.out.cell (HCELL.out 3 _ rfl)
 simp only [Nat.add_zero,← Nat.add_assoc] at y0 y1 y2 y3
 refine wp_region_mono_tail 11 [none,none,none,none,none,none,none,none,none,none,some (.inr (BoxC w6_.heap.size 36 #[I 0,I 0,I 0,I 0,I 0,I 0]))] (by kernel_rfl) (by kernel_rfl) ?_ ?_
 ·exact ⟨trivial,trivial,trivial,trivial,trivial,trivial,trivial,trivial,trivial,trivial,monoBoxC _ _ _,trivial⟩
 iterate 2 (refine wpM_p (fun K hK=>?_); go_simp; first | refine hK _ ?_ | refine ⟨(fun h=>by cases h),hK _ ?_⟩; clear hK K)
 refine wpM_q (I j) rfl (fun w' hw'=>by have q0:=hw'.cell x1; go_simp) ?_
 refine wpM_norm (fun K hK=>?_); go_simp; refine hK _ ?_; clear hK K
 iterate 1 (refine wpM_p (fun K hK=>?_); go_simp; first | refine hK _ ?_ | refine ⟨(fun h=>by cases h),hK _ ?_⟩; clear hK K)
 refine wpM_q (.slice (some ⟨cb,co,none⟩) cl.length kc) rfl (fun w' hw'=>by have q0:=hw'.cell x0; go_simp) ?_
 refine wpM_norm (fun K hK=>?_); go_simp; refine hK _ ?_; clear hK K
 iterate 1 (refine wpM_p (fun K hK=>?_); go_simp; first | refine hK _ ?_ | refine ⟨(fun h=>by cases h),hK _ ?_⟩; clear hK K)
 refine wpM_q (I j) rfl (fun w' hw'=>by have q0:=hw'.cell x1; go_simp) ?_
 refine wpM_norm (fun K hK=>?_); go_simp; refine hK _ ?_; clear hK K
 iterate 1 (refine wpM_p (fun K hK=>?_); go_simp; first | refine hK _ ?_ | refine ⟨(fun h=>by cases h),hK _ ?_⟩; clear hK K)
 refine wpM_q (.agg #[I xk,I xa2,I xo,I xn]) rfl (fun w' hw'=>by have q0:=hw'.cell y0; have q1:=hw'.cell y1; have q2:=hw'.cell y2; have q3:=hw'.cell y3; go_simp) ?_
 refine wpM_norm (fun K hK=>?_); go_simp; refine hK _ ?_; clear hK K
 iterate 1 (refine wpM_p (fun K hK=>?_); go_simp; first | refine hK _ ?_ | refine ⟨(fun h=>by cases h),hK _ ?_⟩; clear hK K)
 refine wpM_l _ rfl (fun w' hw' hk=>?_) (fun v13=>?_)
 ·have hsz:=hw'.size
  clear hk
  unfold makes
  go_simp
  exact ⟨(Ext.refl _).alloc _,boxC_new hsz⟩
 refine wpM_norm (fun K hK=>?_); go_simp; refine hK _ ?_; clear hK K
 refine wpM_nil ?_
 intro w9 e9 hF
 obtain ⟨b13,rfl,hb13,hB13⟩ : BoxC w6_.heap.size 36 #[I 0,I 0,I 0,I 0,I 0,I 0] v13 w9:=hF 13
 clear hF x0 x1 y0 y1 y2 y3
 have D_b0_b13 : Hid (b0 < b13):=Nat.lt_of_lt_of_le (Array.getElem?_eq_some_iff.1 B_b0.out).1 hb13
 have D_b1_b13 : Hid (b1 < b13):=Nat.lt_of_lt_of_le (Array.getElem?_eq_some_iff.1 B_b1.out).1 hb13
 have D_b3_b13 : Hid (b3 < b13):=Nat.lt_of_lt_of_le (Array.getElem?_eq_some_iff.1 B_b3.out).1 hb13
 obtain ⟨B11,HB11⟩ : ∃ X : Nat → Prop,Hid (∀ k,X k ↔ (B1 k ∧ k ≠ b13)):=⟨_,fun _=>Iff.rfl⟩
 have hnar : ∀ k,k < w6_.heap.size → B1 k → B11 k:=fun k hk h=>(HB11.out k).2 ⟨h,by omega⟩
 replace HC:=Lib.hid (HC.out.widen (B:=B11) hnar)
 replace HB:=Lib.hid (HB.out.widen (B:=B11) hnar)
 replace HG:=Lib.hid (HG.out.widen (B:=B11) hnar)
 replace N_b0 : Hid (¬ B11 b0):=fun h=>N_b0.out ((HB11.out _).1 h).1
 replace N_b1 : Hid (¬ B11 b1):=fun h=>N_b1.out ((HB11.out _).1 h).1
 replace N_b3 : Hid (¬ B11 b3):=fun h=>N_b3.out ((HB11.out _).1 h).1
 have N_b13 : Hid (¬ B11 b13):=fun h=>((HB11.out _).1 h).2 rfl
 have I_B11 : Hid (∀ k,B11 k → B1 k):=fun k h=>((HB11.out k).1 h).1
 clear hnar
 have O_b13 : Hid (w.heap.size ≤ b13):=Nat.le_trans EW.out.size hb13
 replace B_b0:=zbx B_b0 e9
 replace B_b1:=zbx B_b1 e9
 replace B_b3:=zbx B_b3 e9
 replace HC:=zrx HC e9
 replace HB:=zrx HB e9
 replace HG:=zrx HG e9
 replace OPg:=Lib.hid (owns_ext OPg.out e9)
 replace EW:=Lib.hid (EW.out.trans e9)
 clear e9
 have B_b13:=Lib.hid hB13
 clear hB13 hb13
 show wpList _ _ _ [_] _ _
 go_wp2_with ((with_reducible refine zst (L:=[44,41,31,51]) ?_ ?_); exact rfl)
 unfold Hid
 refine wpList_storeW rfl 36 (.tmp 13) (.tmp 43) rfl b13 rfl [I me,I j,I xk,I xa2,I xo,I xn] (rfl) B_b13 rfl (by kernel_rfl) rfl (fun w7_ M7=>?_)
 replace OPg:=Lib.hid (OPg.out.kept M7.out.grown (.inr (own_ne OPg.out B_b13.out (by decide))))
 replace B_b0:=zwl M7 B_b0 D_b0_b13
 replace B_b1:=zwl M7 B_b1 D_b1_b13
 replace B_b3:=zwl M7 B_b3 D_b3_b13
 replace B_b13:=zwb M7
 replace HC:=zwr M7 HC N_b13
 replace HB:=zwr M7 HB N_b13
 replace HG:=zwr M7 HG N_b13
 replace EW:=zwe M7 EW O_b13
 go_wp2_with fail
 refine wp_region_mono_tail 3 [none,none,some (.inr (fun (v : Value) (wx : World)=>wx.ownsRow w7_.heap.size 5 1 v 10 ((reqB ⟨me,j,⟨xk,xa2,xo,xn⟩⟩).map U)))] (by kernel_rfl) (by kernel_rfl) ?_ ?_
 ·exact ⟨trivial,trivial,monoOwns _ _ _ _ _,trivial⟩
 refine wpM_q (.agg #[.slice (some ⟨kg,0,none⟩) cl.length cl.length,I j,.bool true,I gen2,.slice (some ⟨xg,0,none⟩) 0 0,.slice (some ⟨gg,0,none⟩) gl.length gl.length]) rfl (fun w' hw'=>run_loadM 51 (.tmp 11) rfl b3 0 rfl (blk_ext B_b3.out hw') [.slice (some ⟨kg,0,none⟩) cl.length cl.length,I j,.bool true,I gen2,.slice (some ⟨xg,0,none⟩) 0 0,.slice (some ⟨gg,0,none⟩) gl.length gl.length] rfl Try.underlying51 (by kernel_rfl)) ?_
 refine wpM_norm (fun K hK=>?_); go_simp; refine hK _ ?_; clear hK K
 refine wpM_q (.agg #[I me,I j,I xk,I xa2,I xo,I xn]) rfl (fun w' hw'=>run_loadM 36 (.tmp 13) rfl b13 0 rfl (blk_ext B_b13.out hw') [I me,I j,I xk,I xa2,I xo,I xn] rfl Try.underlying36 (by kernel_rfl)) ?_
 refine wpM_norm (fun K hK=>?_); go_simp; refine hK _ ?_; clear hK K
 refine wpM_l _ rfl (fun w' hw' hk=>?_) (fun v46=>?_)
 ·have hg : Gives Try.prog 24 #[RQ ⟨me,j,⟨xk,xa2,xo,xn⟩⟩] w' (fun (v : Value) (wx : World)=>wx.ownsRow w7_.heap.size 5 1 v 10 ((reqB ⟨me,j,⟨xk,xa2,xo,xn⟩⟩).map U)):=Calls.mono (Request_any me j xk xa2 xo xn w') fun e wx ⟨v',he,ho,hx⟩=>⟨v',he,hx,owns_base (b2:=w7_.heap.size) ho hw'.size⟩
  clear hk
  unfold makes
  go_simp
  exact ⟨Ext.refl _,hg⟩
 refine wpM_norm (fun K hK=>?_); go_simp; refine hK _ ?_; clear hK K
 refine wpM_nil ?_
 intro w8 e8 hF
 have hby : w8.ownsRow w7_.heap.size 5 1 v46 10 ((reqB ⟨me,j,⟨xk,xa2,xo,xn⟩⟩).map U):=hF 46
 have hby2 : Rd (fun k=>w7_.heap.size ≤ k) (fun w=>Bytes w v46 (reqB ⟨me,j,⟨xk,xa2,xo,xn⟩⟩)) w8:=rd_owns hby
 have q1:=(Array.getElem?_eq_some_iff.1 B_b1.out).1
 have q2:=A_b1.out
 have q3:=(Array.getElem?_eq_some_iff.1 B_b3.out).1
 have q4:=(Array.getElem?_eq_some_iff.1 B_b13.out).1
 have HBY:=Lib.hid (hby2.widen (B:=B11) (fun k _ h=>(HB11.out k).2 ⟨(HB1.out k).2 ⟨HK.out.2.1 k (by omega),by omega⟩,by omega⟩))
 clear hF hby hby2 q1 q2 q3 q4
 replace B_b0:=zbx B_b0 e8
 replace B_b1:=zbx B_b1 e8
 replace B_b3:=zbx B_b3 e8
 replace B_b13:=zbx B_b13 e8
 replace HC:=zrx HC e8
 replace HB:=zrx HB e8
 replace HG:=zrx HG e8
 replace OPg:=Lib.hid (owns_ext OPg.out e8)
 replace EW:=Lib.hid (EW.out.trans e8)
 clear e8
 show wpList _ _ _ [_,_,_] _ _
 go_wp2_with ((with_reducible refine zst (L:=[44,41,31,51]) ?_ ?_); exact rfl)
 unfold Hid
 refine wpList_storeW rfl 51 (.tmp 8) (.tmp 44) rfl b1 rfl [.slice (some ⟨kg,0,none⟩) cl.length cl.length,I j,.bool true,I gen2,.slice (some ⟨xg,0,none⟩) 0 0,.slice (some ⟨gg,0,none⟩) gl.length gl.length] (rfl) B_b1 rfl (by kernel_rfl) rfl (fun w8_ M8=>?_)
 replace OPg:=Lib.hid (OPg.out.kept M8.out.grown (.inr (own_ne OPg.out B_b1.out (by decide))))
 replace B_b0:=zwl M8 B_b0 D_b0_b1
 replace B_b1:=zwb M8
 replace B_b3:=zwg M8 B_b3 D_b1_b3
 replace B_b13:=zwg M8 B_b13 D_b1_b13
 replace HC:=zwr M8 HC N_b1
 replace HB:=zwr M8 HB N_b1
 replace HG:=zwr M8 HG N_b1
 replace HBY:=zwr M8 HBY N_b1
 replace EW:=zwe M8 EW O_b1
 go_wp2
 have z0:=run_box (P:=Try.prog) 51 B_b1.out Try.underlying51 (by kernel_rfl)
 refine bodyPost_ret (by simp [results,Try.results11,asAddr,z0]; rfl) rfl ?_
 exact ⟨_,rfl,EW.out,Rd.widen (A:=B11) (tup3_rd (cn_rd (c:=⟨cl,j,true,gen2,[],gl⟩) HC.out HB.out HG.out) HBY.out) (fun k _ h=>HK.out.2.2.2 k (I_B1.out k (I_B11.out k h)))⟩

theorem goOk : GoOk:=fun c calls box got me gen2 up w A h1 h2 h3 h4 _ _=>by
 obtain ⟨cl,at_,sent,gen,bl,gl⟩:=c
 cases bl with
 | nil=>exact GoC_idle cl at_ sent gen gl calls box got me gen2 up w A h1 h2 h3 h4
 | cons b l=>exact GoC_hear cl at_ sent gen b l gl calls box got me gen2 up w A h1 h2 h3 h4

end Go.Proofs.Ytdmipnnfoolelae
