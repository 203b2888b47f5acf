/- Texts of the proof, merged: N4 N5. -/
import Derived.Test.YtdmipnnfooleladGreatKH
import Derived.Test.YtdmipnnfooleladGreatKB

namespace Go.Proofs.YtdmipnnfooleladGreat
open Go.RowKit Go.Mk
set_option maxRecDepth 100000

set_option maxHeartbeats 400000 in
theorem refClientGo_idle (cl : List Cl) (at_ : Int) (sent : Bool) (gen : Int) (gl : List Rp) (calls box got : Value) (me gen2 : Int) (up : Bool) (w : World) (A : Nat → Prop)
  (hc : Rd A (fun w=>RowOf 4 elCl w calls cl) w) (hb : Rd A (fun w=>RowOf 1 elBs w box []) w) (hg : Rd A (fun w=>RowOf 2 elRp w got gl) w) (h0 : 0 ≤ at_) :
  Keeps Tryz.prog 45 #[.agg #[calls,I at_,.bool sent,I gen,box,got],I me,I gen2,.bool up] w A (fun r w'=>Tup3 elCn (goCn ⟨cl,at_,sent,gen,[],gl⟩ me gen2 up).1 (goCn ⟨cl,at_,sent,gen,[],gl⟩ me gen2 up).2.1 (goCn ⟨cl,at_,sent,gen,[],gl⟩ me gen2 up).2.2 r w'):=by
 unfold Keeps
 obtain ⟨ca,cc,rfl⟩:=rowOf_slice hc.out
 obtain ⟨ga,gc,rfl⟩:=rowOf_slice hg.out
 have EW:=Lib.hid (Ext.refl w)
 obtain ⟨B,hB⟩:=away A w.heap.size 2
 have HK:=Lib.hid hB
 clear hB
 have HC:=Lib.hid (hc.widen HK.out.1)
 have HB:=Lib.hid (hb.widen HK.out.1)
 have HG:=Lib.hid (hg.widen HK.out.1)
 clear hc hb hg
 obtain ⟨ba,bc,rfl⟩:=rowOf_slice HB.out.out
 have hX0 : goCn ⟨cl,at_,sent,gen,[],gl⟩ me gen2 up = if (cl.length : Int) ≤ at_ then (⟨cl,at_,sent,gen,[],gl⟩,[],11) else if ¬ up then (⟨cl,at_,sent,gen,[],gl⟩,[],10) else if sent ∧ gen = gen2 then (⟨cl,at_,sent,gen,[],gl⟩,[],12) else (⟨cl,at_,true,gen2,[],gl⟩,reqB ⟨me,at_,cl.getD at_.toNat ⟨0,0,0,0⟩⟩,0):=rfl
 by_cases hat : (cl.length : Int) ≤ at_
 case pos =>
  rw [hX0,if_pos hat]
  clear hX0
  go_enter Tryz.func45,Tryz.ntmps45
  go_wp2_with ((with_reducible refine zst (L:=[44,41,31,100]) ?_ ?_); exact rfl)
  unfold Hid
  refine wpList_boxB rfl 100 (.tmp 0) rfl #[.slice ca cl.length cc,I at_,.bool sent,I gen,.slice ba 0 bc,.slice ga gl.length gc] rfl (fun b0 w1_ M1=>?_)
  have B_b0:=zmb M1
  replace HC:=zme M1 HC
  replace HB:=zme M1 HB
  replace HG:=zme M1 HG
  replace EW:=zet EW M1
  go_wp2_with ((with_reducible refine zst (L:=[44,41,31,100]) ?_ ?_); exact rfl)
  unfold Hid
  refine wpList_allocB rfl 100 #[.slice none 0 0,I 0,.bool false,I 0,.slice none 0 0,.slice none 0 0] (by kernel_rfl) (fun b1 w2_ M2=>?_)
  have D_b0_b1:=zld B_b0 M2
  replace B_b0:=zmo M2 B_b0
  have B_b1:=zmb M2
  replace HC:=zme M2 HC
  replace HB:=zme M2 HB
  replace HG:=zme M2 HG
  replace EW:=zet EW M2
  have A_b0 : Hid (b0 = w.heap.size + 0):=by unfold Hid; have q0:=M1.out.at_; have r0:=M1.out.size; omega
  have N_b0:=znb HK A_b0 (by decide)
  have O_b0:=zob A_b0
  have A_b1 : Hid (b1 = w.heap.size + 1):=by unfold Hid; have q0:=M1.out.at_; have r0:=M1.out.size; have q1:=M2.out.at_; have r1:=M2.out.size; omega
  have N_b1:=znb HK A_b1 (by decide)
  have O_b1:=zob A_b1
  have c0:=cell_of (i:=0) B_b0.out rfl
  have c1:=cell_of (i:=1) B_b0.out rfl
  have c2:=cell_of (i:=2) B_b0.out rfl
  have c3:=cell_of (i:=3) B_b0.out rfl
  have c4:=cell_of (i:=4) B_b0.out rfl
  go_wp2_with ((with_reducible refine zst (L:=[44,41,31,100]) ?_ ?_); exact rfl)
  unfold Hid
  clear c0 c1 c2 c3 c4
  refine wpList_loadW rfl 100 (.tmp 4) rfl b0 rfl B_b0 Tryz.underlying100 (by kernel_rfl) (fun v69 H_v69=>?_)
  go_wp2_with ((with_reducible refine zst (L:=[44,41,31,100]) ?_ ?_); exact rfl)
  unfold Hid
  refine wpList_storeW rfl 100 (.tmp 8) (.tmp 69) rfl b1 rfl _ (zcv H_v69) B_b1 rfl (by kernel_rfl) rfl (fun w3_ M3=>?_)
  replace B_b0:=zwl M3 B_b0 D_b0_b1
  replace B_b1:=zwb M3
  replace HC:=zwr M3 HC N_b1
  replace HB:=zwr M3 HB N_b1
  replace HG:=zwr M3 HG N_b1
  replace EW:=zwe M3 EW O_b1
  go_wp2
  have z0:=run_box (P:=Tryz.prog) 100 B_b1.out Tryz.underlying100 (by kernel_rfl)
  refine bodyPost_ret (by simp [results,Tryz.results45,asAddr,z0]; rfl) rfl ?_
  exact ⟨_,rfl,EW.out,Rd.widen (A:=B) (tup3_rd (cn_rd (c:=⟨cl,at_,sent,gen,[],gl⟩) (HC.out) (HB.out) (HG.out)) (Rd.all fun w=>bytes_nil w)) (fun k _ h=>HK.out.2.2.2 k h)⟩
 rw [hX0,if_neg hat]
 cases up
 case false =>
  rw [if_pos (by simp)]
  clear hX0
  go_enter Tryz.func45,Tryz.ntmps45
  go_wp2_with ((with_reducible refine zst (L:=[44,41,31,100]) ?_ ?_); exact rfl)
  unfold Hid
  refine wpList_boxB rfl 100 (.tmp 0) rfl #[.slice ca cl.length cc,I at_,.bool sent,I gen,.slice ba 0 bc,.slice ga gl.length gc] rfl (fun b0 w1_ M1=>?_)
  have B_b0:=zmb M1
  replace HC:=zme M1 HC
  replace HB:=zme M1 HB
  replace HG:=zme M1 HG
  replace EW:=zet EW M1
  go_wp2_with ((with_reducible refine zst (L:=[44,41,31,100]) ?_ ?_); exact rfl)
  unfold Hid
  refine wpList_allocB rfl 100 #[.slice none 0 0,I 0,.bool false,I 0,.slice none 0 0,.slice none 0 0] (by kernel_rfl) (fun b1 w2_ M2=>?_)
  have D_b0_b1:=zld B_b0 M2
  replace B_b0:=zmo M2 B_b0
  have B_b1:=zmb M2
  replace HC:=zme M2 HC
  replace HB:=zme M2 HB
  replace HG:=zme M2 HG
  replace EW:=zet EW M2
  have A_b0 : Hid (b0 = w.heap.size + 0):=by unfold Hid; have q0:=M1.out.at_; have r0:=M1.out.size; omega
  have N_b0:=znb HK A_b0 (by decide)
  have O_b0:=zob A_b0
  have A_b1 : Hid (b1 = w.heap.size + 1):=by unfold Hid; have q0:=M1.out.at_; have r0:=M1.out.size; have q1:=M2.out.at_; have r1:=M2.out.size; omega
  have N_b1:=znb HK A_b1 (by decide)
  have O_b1:=zob A_b1
  have c0:=cell_of (i:=0) B_b0.out rfl
  have c1:=cell_of (i:=1) B_b0.out rfl
  have c2:=cell_of (i:=2) B_b0.out rfl
  have c3:=cell_of (i:=3) B_b0.out rfl
  have c4:=cell_of (i:=4) B_b0.out rfl
  go_wp2_with ((with_reducible refine zst (L:=[44,41,31,100]) ?_ ?_); exact rfl)
  unfold Hid
  clear c0 c1 c2 c3 c4
  refine wpList_loadW rfl 100 (.tmp 4) rfl b0 rfl B_b0 Tryz.underlying100 (by kernel_rfl) (fun v72 H_v72=>?_)
  go_wp2_with ((with_reducible refine zst (L:=[44,41,31,100]) ?_ ?_); exact rfl)
  unfold Hid
  refine wpList_storeW rfl 100 (.tmp 8) (.tmp 72) rfl b1 rfl _ (zcv H_v72) B_b1 rfl (by kernel_rfl) rfl (fun w3_ M3=>?_)
  replace B_b0:=zwl M3 B_b0 D_b0_b1
  replace B_b1:=zwb M3
  replace HC:=zwr M3 HC N_b1
  replace HB:=zwr M3 HB N_b1
  replace HG:=zwr M3 HG N_b1
  replace EW:=zwe M3 EW O_b1
  go_wp2
  have z0:=run_box (P:=Tryz.prog) 100 B_b1.out Tryz.underlying100 (by kernel_rfl)
  refine bodyPost_ret (by simp [results,Tryz.results45,asAddr,z0]; rfl) rfl ?_
  exact ⟨_,rfl,EW.out,Rd.widen (A:=B) (tup3_rd (cn_rd (c:=⟨cl,at_,sent,gen,[],gl⟩) (HC.out) (HB.out) (HG.out)) (Rd.all fun w=>bytes_nil w)) (fun k _ h=>HK.out.2.2.2 k h)⟩
 rw [if_neg (by simp)]
 by_cases hsg : sent = true ∧ gen = gen2
 case pos =>
  rw [if_pos hsg]
  obtain ⟨rfl,rfl⟩:=hsg
  clear hX0
  go_enter Tryz.func45,Tryz.ntmps45
  go_wp2_with ((with_reducible refine zst (L:=[44,41,31,100]) ?_ ?_); exact rfl)
  unfold Hid
  refine wpList_boxB rfl 100 (.tmp 0) rfl #[.slice ca cl.length cc,I at_,.bool true,I gen,.slice ba 0 bc,.slice ga gl.length gc] rfl (fun b0 w1_ M1=>?_)
  have B_b0:=zmb M1
  replace HC:=zme M1 HC
  replace HB:=zme M1 HB
  replace HG:=zme M1 HG
  replace EW:=zet EW M1
  go_wp2_with ((with_reducible refine zst (L:=[44,41,31,100]) ?_ ?_); exact rfl)
  unfold Hid
  refine wpList_allocB rfl 100 #[.slice none 0 0,I 0,.bool false,I 0,.slice none 0 0,.slice none 0 0] (by kernel_rfl) (fun b1 w2_ M2=>?_)
  have D_b0_b1:=zld B_b0 M2
  replace B_b0:=zmo M2 B_b0
  have B_b1:=zmb M2
  replace HC:=zme M2 HC
  replace HB:=zme M2 HB
  replace HG:=zme M2 HG
  replace EW:=zet EW M2
  have A_b0 : Hid (b0 = w.heap.size + 0):=by unfold Hid; have q0:=M1.out.at_; have r0:=M1.out.size; omega
  have N_b0:=znb HK A_b0 (by decide)
  have O_b0:=zob A_b0
  have A_b1 : Hid (b1 = w.heap.size + 1):=by unfold Hid; have q0:=M1.out.at_; have r0:=M1.out.size; have q1:=M2.out.at_; have r1:=M2.out.size; omega
  have N_b1:=znb HK A_b1 (by decide)
  have O_b1:=zob A_b1
  have c0:=cell_of (i:=0) B_b0.out rfl
  have c1:=cell_of (i:=1) B_b0.out rfl
  have c2:=cell_of (i:=2) B_b0.out rfl
  have c3:=cell_of (i:=3) B_b0.out rfl
  have c4:=cell_of (i:=4) B_b0.out rfl
  go_wp2_with ((with_reducible refine zst (L:=[44,41,31,100]) ?_ ?_); exact rfl)
  unfold Hid
  clear c0 c1 c2 c3 c4
  refine wpList_loadW rfl 100 (.tmp 4) rfl b0 rfl B_b0 Tryz.underlying100 (by kernel_rfl) (fun v81 H_v81=>?_)
  go_wp2_with ((with_reducible refine zst (L:=[44,41,31,100]) ?_ ?_); exact rfl)
  unfold Hid
  refine wpList_storeW rfl 100 (.tmp 8) (.tmp 81) rfl b1 rfl _ (zcv H_v81) B_b1 rfl (by kernel_rfl) rfl (fun w3_ M3=>?_)
  replace B_b0:=zwl M3 B_b0 D_b0_b1
  replace B_b1:=zwb M3
  replace HC:=zwr M3 HC N_b1
  replace HB:=zwr M3 HB N_b1
  replace HG:=zwr M3 HG N_b1
  replace EW:=zwe M3 EW O_b1
  go_wp2
  have z0:=run_box (P:=Tryz.prog) 100 B_b1.out Tryz.underlying100 (by kernel_rfl)
  refine bodyPost_ret (by simp [results,Tryz.results45,asAddr,z0]; rfl) rfl ?_
  exact ⟨_,rfl,EW.out,Rd.widen (A:=B) (tup3_rd (cn_rd (c:=⟨cl,at_,true,gen,[],gl⟩) (HC.out) (HB.out) (HG.out)) (Rd.all fun w=>bytes_nil w)) (fun k _ h=>HK.out.2.2.2 k h)⟩
 rw [if_neg hsg]
 clear hX0
 have hsel : (sent = false ∨ (sent = true ∧ (gen == gen2) = false)):=by
  cases sent
  ·exact .inl rfl
  ·exact .inr ⟨rfl,by simpa using hsg⟩
 clear hsg
 obtain ⟨cx,hcx⟩ : ∃ x,cl[at_.toNat]? = some x:=⟨_,List.getElem?_eq_getElem (by omega)⟩
 have hgd : cl.getD at_.toNat ⟨0,0,0,0⟩ = cx:=by simp [hcx]
 rw [hgd]
 clear hgd
 obtain ⟨ao,cap,e1,-,-,-,hform⟩:=HC.out.out.form (by decide)
 simp only [Value.slice.injEq,true_and] at e1
 obtain ⟨rfl,rfl⟩:=e1
 obtain ⟨xk,xa,xo,xn⟩:=cx
 obtain ⟨cb,co,c4,rfl,-,hc4,hcell⟩:=hform _ _ hcx
 have hc4 : c4 = [I xk,I xa,I xo,I xn]:=hc4
 subst hc4
 have HCELL:=Lib.hid hcell
 have hlt : at_ < (cl.length : Int):=by omega
 clear hcell hform hcx hat
 obtain ⟨j,rfl⟩ : ∃ j : Nat,at_ = (j : Int):=⟨at_.toNat,by omega⟩
 simp only [Int.toNat_natCast] at HCELL
 rcases hsel with rfl | ⟨rfl,hgn⟩
 ·go_enter Tryz.func45,Tryz.ntmps45
  go_wp2_with ((with_reducible refine zst (L:=[44,41,31,100]) ?_ ?_); exact rfl)
  unfold Hid
  refine wpList_boxB rfl 100 (.tmp 0) rfl #[.slice (some ⟨cb,co,none⟩) cl.length cc,I j,.bool false,I gen,.slice ba 0 bc,.slice ga gl.length gc] rfl (fun b0 w1_ M1=>?_)
  have B_b0:=zmb M1
  replace HC:=zme M1 HC
  replace HB:=zme M1 HB
  replace HG:=zme M1 HG
  replace EW:=zet EW M1
  go_wp2_with ((with_reducible refine zst (L:=[44,41,31,100]) ?_ ?_); exact rfl)
  unfold Hid
  refine wpList_allocB rfl 100 #[.slice none 0 0,I 0,.bool false,I 0,.slice none 0 0,.slice none 0 0] (by kernel_rfl) (fun b1 w2_ M2=>?_)
  have D_b0_b1:=zld B_b0 M2
  replace B_b0:=zmo M2 B_b0
  have B_b1:=zmb M2
  replace HC:=zme M2 HC
  replace HB:=zme M2 HB
  replace HG:=zme M2 HG
  replace EW:=zet EW M2
  have A_b0 : Hid (b0 = w.heap.size + 0):=by unfold Hid; have q0:=M1.out.at_; have r0:=M1.out.size; omega
  have N_b0:=znb HK A_b0 (by decide)
  have O_b0:=zob A_b0
  have A_b1 : Hid (b1 = w.heap.size + 1):=by unfold Hid; have q0:=M1.out.at_; have r0:=M1.out.size; have q1:=M2.out.at_; have r1:=M2.out.size; omega
  have N_b1:=znb HK A_b1 (by decide)
  have O_b1:=zob A_b1
  have c0:=cell_of (i:=0) B_b0.out rfl
  have c1:=cell_of (i:=1) B_b0.out rfl
  have c2:=cell_of (i:=2) B_b0.out rfl
  have c3:=cell_of (i:=3) B_b0.out rfl
  have c4:=cell_of (i:=4) B_b0.out rfl
  go_wp2_with ((with_reducible refine zst (L:=[44,41,31,100]) ?_ ?_); exact rfl)
  unfold Hid
  clear c0 c1 c2 c3 c4
  refine wpList_storeP rfl 4 (.tmp 83) (.const (.bool true)) rfl b0 2 rfl [.bool true] (rfl) B_b0 rfl (by kernel_rfl) rfl [.slice (some ⟨cb,co,none⟩) cl.length cc,I j,.bool true,I gen,.slice ba 0 bc,.slice ga gl.length gc] rfl (fun w3_ M3=>?_)
  replace B_b0:=zwb M3
  replace B_b1:=zwg M3 B_b1 D_b0_b1
  replace HC:=zwr M3 HC N_b0
  replace HB:=zwr M3 HB N_b0
  replace HG:=zwr M3 HG N_b0
  replace EW:=zwe M3 EW O_b0
  go_wp2_with ((with_reducible refine zst (L:=[44,41,31,100]) ?_ ?_); exact rfl)
  unfold Hid
  refine wpList_storeP rfl 3 (.tmp 84) (.tmp 82) rfl b0 3 rfl [I gen2] (rfl) B_b0 rfl (by kernel_rfl) rfl [.slice (some ⟨cb,co,none⟩) cl.length cc,I j,.bool true,I gen2,.slice ba 0 bc,.slice ga gl.length gc] rfl (fun w4_ M4=>?_)
  replace B_b0:=zwb M4
  replace B_b1:=zwg M4 B_b1 D_b0_b1
  replace HC:=zwr M4 HC N_b0
  replace HB:=zwr M4 HB N_b0
  replace HG:=zwr M4 HG N_b0
  replace EW:=zwe M4 EW O_b0
  go_wp2_with fail
  have hbx:=B_b0.out
  have x0:=cell_of (i:=0) hbx rfl
  have x1:=cell_of (i:=1) hbx rfl
  have y0:=EW.out.cell (HCELL.out 0 _ rfl)
  have y1:=EW.out.cell (HCELL.out 1 _ rfl)
  have y2:=EW.out.cell (HCELL.out 2 _ rfl)
  have y3:=EW.out.cell (HCELL.out 3 _ rfl)
  simp only [Nat.add_zero,← Nat.add_assoc] at y0 y1 y2 y3
  refine wp_region_mono_tail 12 [none,none,none,none,none,none,none,none,none,none,none,some (.inr fun v wx=>BytesAt w4_.heap.size wx v (reqB ⟨me,j,⟨xk,xa,xo,xn⟩⟩))] (by kernel_rfl) (by kernel_rfl) ?_ ?_
  ·exact ⟨trivial,trivial,trivial,trivial,trivial,trivial,trivial,trivial,trivial,trivial,trivial,monoBytesAt _ _,trivial⟩
  refine wpM_q (.agg #[.slice (some ⟨cb,co,none⟩) cl.length cc,I j,.bool true,I gen2,.slice ba 0 bc,.slice ga gl.length gc]) rfl (fun w' hw'=>run_loadM 100 (.tmp 4) rfl b0 0 rfl (blk_ext hbx hw') [.slice (some ⟨cb,co,none⟩) cl.length cc,I j,.bool true,I gen2,.slice ba 0 bc,.slice ga gl.length gc] rfl Tryz.underlying100 (by kernel_rfl)) ?_
  refine wpM_norm (fun K hK=>?_); go_simp; refine hK _ ?_; clear hK K
  iterate 1 (refine wpM_p (fun K hK=>?_); go_simp; first | refine hK _ ?_ | refine ⟨(fun h=>by cases h),hK _ ?_⟩; clear hK K)
  iterate 1 (refine wpM_p (fun K hK=>?_); go_simp; first | refine hK _ ?_ | refine ⟨(fun h=>by cases h),hK _ ?_⟩; clear hK K)
  refine wpM_q (I j) rfl (fun w' hw'=>by have q0:=hw'.cell x1; go_simp) ?_
  refine wpM_norm (fun K hK=>?_); go_simp; refine hK _ ?_; clear hK K
  iterate 1 (refine wpM_p (fun K hK=>?_); go_simp; first | refine hK _ ?_ | refine ⟨(fun h=>by cases h),hK _ ?_⟩; clear hK K)
  refine wpM_q (.slice (some ⟨cb,co,none⟩) cl.length cc) rfl (fun w' hw'=>by have q0:=hw'.cell x0; go_simp) ?_
  refine wpM_norm (fun K hK=>?_); go_simp; refine hK _ ?_; clear hK K
  iterate 1 (refine wpM_p (fun K hK=>?_); go_simp; first | refine hK _ ?_ | refine ⟨(fun h=>by cases h),hK _ ?_⟩; clear hK K)
  refine wpM_q (I j) rfl (fun w' hw'=>by have q0:=hw'.cell x1; go_simp) ?_
  refine wpM_norm (fun K hK=>?_); go_simp; refine hK _ ?_; clear hK K
  iterate 1 (refine wpM_p (fun K hK=>?_); go_simp; first | refine hK _ ?_ | refine ⟨(fun h=>by cases h),hK _ ?_⟩; clear hK K)
  refine wpM_q (.agg #[I xk,I xa,I xo,I xn]) rfl (fun w' hw'=>by have q0:=hw'.cell y0; have q1:=hw'.cell y1; have q2:=hw'.cell y2; have q3:=hw'.cell y3; go_simp) ?_
  refine wpM_norm (fun K hK=>?_); go_simp; refine hK _ ?_; clear hK K
  iterate 1 (refine wpM_p (fun K hK=>?_); go_simp; first | refine hK _ ?_ | refine ⟨(fun h=>by cases h),hK _ ?_⟩; clear hK K)
  refine wpM_l _ rfl (fun w' hw' hk=>?_) (fun v96=>?_)
  ·have hg:=RequestBytes_own me j xk xa xo xn w'
   have hle:=hw'.size
   clear hk
   unfold makes
   go_simp
   exact ⟨Ext.refl _,hg.mono fun _ _ _ ⟨b,o,n,c,e,hb,h⟩=>⟨b,o,n,c,e,Nat.le_trans hle hb,h⟩⟩
  refine wpM_norm (fun K hK=>?_); go_simp; refine hK _ ?_; clear hK K
  refine wpM_nil ?_
  intro w9 e9 hX
  have hby : BytesAt w4_.heap.size w9 v96 (reqB ⟨me,j,⟨xk,xa,xo,xn⟩⟩):=hX 96
  clear hX x0 x1 y0 y1 y2 y3 hbx
  have hsz : w.heap.size + 2 ≤ w4_.heap.size:=by have q:=(Array.getElem?_eq_some_iff.1 B_b1.out).1; have q2:=A_b1.out; omega
  have HBY:=Lib.hid (hby.rd.widen (B:=B) (fun k _ h=>HK.out.2.1 k (by omega)))
  clear hby hsz
  replace B_b0:=zbx B_b0 e9
  replace B_b1:=zbx B_b1 e9
  replace HC:=zrx HC e9
  replace HB:=zrx HB e9
  replace HG:=zrx HG e9
  replace EW:=Lib.hid (EW.out.trans e9)
  show wpList _ _ _ [_,_,_] _ _
  go_wp2_with ((with_reducible refine zst (L:=[44,41,31,100]) ?_ ?_); exact rfl)
  unfold Hid
  refine wpList_storeW rfl 100 (.tmp 8) (.tmp 85) rfl b1 rfl [.slice (some ⟨cb,co,none⟩) cl.length cc,I j,.bool true,I gen2,.slice ba 0 bc,.slice ga gl.length gc] (rfl) B_b1 rfl (by kernel_rfl) rfl (fun w5_ M5=>?_)
  replace B_b0:=zwl M5 B_b0 D_b0_b1
  replace B_b1:=zwb M5
  replace HC:=zwr M5 HC N_b1
  replace HB:=zwr M5 HB N_b1
  replace HG:=zwr M5 HG N_b1
  replace HBY:=zwr M5 HBY N_b1
  replace EW:=zwe M5 EW O_b1
  go_wp2
  have z0:=run_box (P:=Tryz.prog) 100 B_b1.out Tryz.underlying100 (by kernel_rfl)
  refine bodyPost_ret (by simp [results,Tryz.results45,asAddr,z0]; rfl) rfl ?_
  exact ⟨_,rfl,EW.out,Rd.widen (A:=B) (tup3_rd (cn_rd (c:=⟨cl,j,true,gen2,[],gl⟩) HC.out HB.out HG.out) HBY.out) (fun k _ h=>HK.out.2.2.2 k h)⟩
 ·go_enter Tryz.func45,Tryz.ntmps45
  go_wp2_with ((with_reducible refine zst (L:=[44,41,31,100]) ?_ ?_); exact rfl)
  unfold Hid
  refine wpList_boxB rfl 100 (.tmp 0) rfl #[.slice (some ⟨cb,co,none⟩) cl.length cc,I j,.bool true,I gen,.slice ba 0 bc,.slice ga gl.length gc] rfl (fun b0 w1_ M1=>?_)
  have B_b0:=zmb M1
  replace HC:=zme M1 HC
  replace HB:=zme M1 HB
  replace HG:=zme M1 HG
  replace EW:=zet EW M1
  go_wp2_with ((with_reducible refine zst (L:=[44,41,31,100]) ?_ ?_); exact rfl)
  unfold Hid
  refine wpList_allocB rfl 100 #[.slice none 0 0,I 0,.bool false,I 0,.slice none 0 0,.slice none 0 0] (by kernel_rfl) (fun b1 w2_ M2=>?_)
  have D_b0_b1:=zld B_b0 M2
  replace B_b0:=zmo M2 B_b0
  have B_b1:=zmb M2
  replace HC:=zme M2 HC
  replace HB:=zme M2 HB
  replace HG:=zme M2 HG
  replace EW:=zet EW M2
  have A_b0 : Hid (b0 = w.heap.size + 0):=by unfold Hid; have q0:=M1.out.at_; have r0:=M1.out.size; omega
  have N_b0:=znb HK A_b0 (by decide)
  have O_b0:=zob A_b0
  have A_b1 : Hid (b1 = w.heap.size + 1):=by unfold Hid; have q0:=M1.out.at_; have r0:=M1.out.size; have q1:=M2.out.at_; have r1:=M2.out.size; omega
  have N_b1:=znb HK A_b1 (by decide)
  have O_b1:=zob A_b1
  have c0:=cell_of (i:=0) B_b0.out rfl
  have c1:=cell_of (i:=1) B_b0.out rfl
  have c2:=cell_of (i:=2) B_b0.out rfl
  have c3:=cell_of (i:=3) B_b0.out rfl
  have c4:=cell_of (i:=4) B_b0.out rfl
  go_wp2_with ((with_reducible refine zst (L:=[44,41,31,100]) ?_ ?_); exact rfl)
  unfold Hid
  clear c0 c1 c2 c3 c4
  refine wpList_storeP rfl 4 (.tmp 83) (.const (.bool true)) rfl b0 2 rfl [.bool true] (rfl) B_b0 rfl (by kernel_rfl) rfl [.slice (some ⟨cb,co,none⟩) cl.length cc,I j,.bool true,I gen,.slice ba 0 bc,.slice ga gl.length gc] rfl (fun w3_ M3=>?_)
  replace B_b0:=zwb M3
  replace B_b1:=zwg M3 B_b1 D_b0_b1
  replace HC:=zwr M3 HC N_b0
  replace HB:=zwr M3 HB N_b0
  replace HG:=zwr M3 HG N_b0
  replace EW:=zwe M3 EW O_b0
  go_wp2_with ((with_reducible refine zst (L:=[44,41,31,100]) ?_ ?_); exact rfl)
  unfold Hid
  refine wpList_storeP rfl 3 (.tmp 84) (.tmp 82) rfl b0 3 rfl [I gen2] (rfl) B_b0 rfl (by kernel_rfl) rfl [.slice (some ⟨cb,co,none⟩) cl.length cc,I j,.bool true,I gen2,.slice ba 0 bc,.slice ga gl.length gc] rfl (fun w4_ M4=>?_)
  replace B_b0:=zwb M4
  replace B_b1:=zwg M4 B_b1 D_b0_b1
  replace HC:=zwr M4 HC N_b0
  replace HB:=zwr M4 HB N_b0
  replace HG:=zwr M4 HG N_b0
  replace EW:=zwe M4 EW O_b0
  go_wp2_with fail
  have hbx:=B_b0.out
  have x0:=cell_of (i:=0) hbx rfl
  have x1:=cell_of (i:=1) hbx rfl
  have y0:=EW.out.cell (HCELL.out 0 _ rfl)
  have y1:=EW.out.cell (HCELL.out 1 _ rfl)
  have y2:=EW.out.cell (HCELL.out 2 _ rfl)
  have y3:=EW.out.cell (HCELL.out 3 _ rfl)
  simp only [Nat.add_zero,← Nat.add_assoc] at y0 y1 y2 y3
  refine wp_region_mono_tail 12 [none,none,none,none,none,none,none,none,none,none,none,some (.inr fun v wx=>BytesAt w4_.heap.size wx v (reqB ⟨me,j,⟨xk,xa,xo,xn⟩⟩))] (by kernel_rfl) (by kernel_rfl) ?_ ?_
  ·exact ⟨trivial,trivial,trivial,trivial,trivial,trivial,trivial,trivial,trivial,trivial,trivial,monoBytesAt _ _,trivial⟩
  refine wpM_q (.agg #[.slice (some ⟨cb,co,none⟩) cl.length cc,I j,.bool true,I gen2,.slice ba 0 bc,.slice ga gl.length gc]) rfl (fun w' hw'=>run_loadM 100 (.tmp 4) rfl b0 0 rfl (blk_ext hbx hw') [.slice (some ⟨cb,co,none⟩) cl.length cc,I j,.bool true,I gen2,.slice ba 0 bc,.slice ga gl.length gc] rfl Tryz.underlying100 (by kernel_rfl)) ?_
  refine wpM_norm (fun K hK=>?_); go_simp; refine hK _ ?_; clear hK K
  iterate 1 (refine wpM_p (fun K hK=>?_); go_simp; first | refine hK _ ?_ | refine ⟨(fun h=>by cases h),hK _ ?_⟩; clear hK K)
  iterate 1 (refine wpM_p (fun K hK=>?_); go_simp; first | refine hK _ ?_ | refine ⟨(fun h=>by cases h),hK _ ?_⟩; clear hK K)
  refine wpM_q (I j) rfl (fun w' hw'=>by have q0:=hw'.cell x1; go_simp) ?_
  refine wpM_norm (fun K hK=>?_); go_simp; refine hK _ ?_; clear hK K
  iterate 1 (refine wpM_p (fun K hK=>?_); go_simp; first | refine hK _ ?_ | refine ⟨(fun h=>by cases h),hK _ ?_⟩; clear hK K)
  refine wpM_q (.slice (some ⟨cb,co,none⟩) cl.length cc) rfl (fun w' hw'=>by have q0:=hw'.cell x0; go_simp) ?_
  refine wpM_norm (fun K hK=>?_); go_simp; refine hK _ ?_; clear hK K
  iterate 1 (refine wpM_p (fun K hK=>?_); go_simp; first | refine hK _ ?_ | refine ⟨(fun h=>by cases h),hK _ ?_⟩; clear hK K)
  refine wpM_q (I j) rfl (fun w' hw'=>by have q0:=hw'.cell x1; go_simp) ?_
  refine wpM_norm (fun K hK=>?_); go_simp; refine hK _ ?_; clear hK K
  iterate 1 (refine wpM_p (fun K hK=>?_); go_simp; first | refine hK _ ?_ | refine ⟨(fun h=>by cases h),hK _ ?_⟩; clear hK K)
  refine wpM_q (.agg #[I xk,I xa,I xo,I xn]) rfl (fun w' hw'=>by have q0:=hw'.cell y0; have q1:=hw'.cell y1; have q2:=hw'.cell y2; have q3:=hw'.cell y3; go_simp) ?_
  refine wpM_norm (fun K hK=>?_); go_simp; refine hK _ ?_; clear hK K
  iterate 1 (refine wpM_p (fun K hK=>?_); go_simp; first | refine hK _ ?_ | refine ⟨(fun h=>by cases h),hK _ ?_⟩; clear hK K)
  refine wpM_l _ rfl (fun w' hw' hk=>?_) (fun v96=>?_)
  ·have hg:=RequestBytes_own me j xk xa xo xn w'
   have hle:=hw'.size
   clear hk
   unfold makes
   go_simp
   exact ⟨Ext.refl _,hg.mono fun _ _ _ ⟨b,o,n,c,e,hb,h⟩=>⟨b,o,n,c,e,Nat.le_trans hle hb,h⟩⟩
  refine wpM_norm (fun K hK=>?_); go_simp; refine hK _ ?_; clear hK K
  refine wpM_nil ?_
  intro w9 e9 hX
  have hby : BytesAt w4_.heap.size w9 v96 (reqB ⟨me,j,⟨xk,xa,xo,xn⟩⟩):=hX 96
  clear hX x0 x1 y0 y1 y2 y3 hbx
  have hsz : w.heap.size + 2 ≤ w4_.heap.size:=by have q:=(Array.getElem?_eq_some_iff.1 B_b1.out).1; have q2:=A_b1.out; omega
  have HBY:=Lib.hid (hby.rd.widen (B:=B) (fun k _ h=>HK.out.2.1 k (by omega)))
  clear hby hsz
  replace B_b0:=zbx B_b0 e9
  replace B_b1:=zbx B_b1 e9
  replace HC:=zrx HC e9
  replace HB:=zrx HB e9
  replace HG:=zrx HG e9
  replace EW:=Lib.hid (EW.out.trans e9)
  show wpList _ _ _ [_,_,_] _ _
  go_wp2_with ((with_reducible refine zst (L:=[44,41,31,100]) ?_ ?_); exact rfl)
  unfold Hid
  refine wpList_storeW rfl 100 (.tmp 8) (.tmp 85) rfl b1 rfl [.slice (some ⟨cb,co,none⟩) cl.length cc,I j,.bool true,I gen2,.slice ba 0 bc,.slice ga gl.length gc] (rfl) B_b1 rfl (by kernel_rfl) rfl (fun w5_ M5=>?_)
  replace B_b0:=zwl M5 B_b0 D_b0_b1
  replace B_b1:=zwb M5
  replace HC:=zwr M5 HC N_b1
  replace HB:=zwr M5 HB N_b1
  replace HG:=zwr M5 HG N_b1
  replace HBY:=zwr M5 HBY N_b1
  replace EW:=zwe M5 EW O_b1
  go_wp2
  have z0:=run_box (P:=Tryz.prog) 100 B_b1.out Tryz.underlying100 (by kernel_rfl)
  refine bodyPost_ret (by simp [results,Tryz.results45,asAddr,z0]; rfl) rfl ?_
  exact ⟨_,rfl,EW.out,Rd.widen (A:=B) (tup3_rd (cn_rd (c:=⟨cl,j,true,gen2,[],gl⟩) HC.out HB.out HG.out) HBY.out) (fun k _ h=>HK.out.2.2.2 k h)⟩

end Go.Proofs.YtdmipnnfooleladGreat

namespace Go.Proofs.YtdmipnnfooleladGreat
open Go.RowKit Go.Mk
set_option maxRecDepth 100000

theorem Tryz.infoRp : (Tryz.prog.info? 39).map (fun i=>(i.zero,i.size,i.bytes)) = some (some (.agg #[.int .i64 0,.int .i64 0]),2,16):=by kernel_rfl

set_option maxHeartbeats 4000000 in
theorem refClientGo_hear (cl : List Cl) (at_ : Int) (sent : Bool) (gen : Int) (b : List UInt8) (l : List (List UInt8)) (gl : List Rp) (calls box got : Value) (me gen2 : Int) (up : Bool) (w : World) (A : Nat → Prop)
  (hc : Rd A (fun w=>RowOf 4 elCl w calls cl) w) (hb : Rd A (fun w=>RowOf 1 elBs w box (b :: l)) w) (hg : Rd A (fun w=>RowOf 2 elRp w got gl) w) (h0 : 0 ≤ at_) (h1 : at_ ≤ 1000000) (hgl : gl.length ≤ 1000) :
  Keeps Tryz.prog 45 #[.agg #[calls,I at_,.bool sent,I gen,box,got],I me,I gen2,.bool up] w A (fun r w'=>Tup3 elCn (goCn ⟨cl,at_,sent,gen,(b :: l),gl⟩ me gen2 up).1 (goCn ⟨cl,at_,sent,gen,(b :: l),gl⟩ me gen2 up).2.1 (goCn ⟨cl,at_,sent,gen,(b :: l),gl⟩ me gen2 up).2.2 r w'):=by
 unfold Keeps
 obtain ⟨ca,cc,rfl⟩:=rowOf_slice hc.out
 obtain ⟨ga,gc,rfl⟩:=rowOf_slice hg.out
 have EW:=Lib.hid (Ext.refl w)
 obtain ⟨B,hB⟩:=away A w.heap.size 2
 have HK:=Lib.hid hB
 clear hB
 have HC:=Lib.hid (hc.widen HK.out.1)
 have HG:=Lib.hid (hg.widen HK.out.1)
 obtain ⟨xb,xo,xc,bv,rfl,hx1,hx2,hf,hrest⟩:=box_first (hb.widen HK.out.1)
 have HF:=Lib.hid hf
 have HB:=Lib.hid hrest
 have HGL:=Lib.hid hgl
 unfold maxLen at hx2
 clear hc hb hg hf hrest hgl
 obtain ⟨⟨ac,at2,⟨re,rn⟩⟩,ae,hRA⟩ : ∃ x y,readAn b = (x,y):=⟨_,_,rfl⟩
 have HRA:=Lib.hid hRA
 have hX0 : goCn ⟨cl,at_,sent,gen,(b :: l),gl⟩ me gen2 up = if ae = 0 ∧ ac = me ∧ at2 = at_ ∧ sent = true then (⟨cl,at_ + 1,false,gen,l,gl ++ [⟨re,rn⟩]⟩,[],0) else (⟨cl,at_,sent,gen,l,gl⟩,[],0):=by
  show (if (readAn b).2 = 0 ∧ (readAn b).1.client = me ∧ (readAn b).1.token = at_ ∧ sent = true then _ else _) = _
  rw [hRA]
 clear hRA
 by_cases hcap : xc = 1
 case pos =>
  obtain rfl : l = []:=List.eq_nil_of_length_eq_zero (by omega)
  subst hcap
  simp only [List.length_nil,Nat.zero_add] at *
  replace HB:=Lib.hid (Rd.all (A:=B) (w:=w) fun w=>rowOf_empty (size:=1) (R:=elBs) w xb xo 0 (by decide))
  by_cases a1 : ae = 0
  case neg =>
   rw [hX0,if_neg (fun h=>a1 h.1)]
   have hb_a1 : (ae == 0) = false:=by simpa using a1
   clear hX0
   go_enter Tryz.func45,Tryz.ntmps45
   go_wp2_with ((with_reducible refine zst (L:=[44,41,31,100]) ?_ ?_); exact rfl)
   unfold Hid
   refine wpList_boxB rfl 100 (.tmp 0) rfl #[.slice ca cl.length cc,I at_,.bool sent,I gen,.slice (some ⟨xb,xo,none⟩) 1 1,.slice ga gl.length gc] rfl (fun b0 w1_ M1=>?_)
   have B_b0:=zmb M1
   replace HC:=zme M1 HC
   replace HB:=zme M1 HB
   replace HG:=zme M1 HG
   replace HF:=zme M1 HF
   replace EW:=zet EW M1
   go_wp2_with ((with_reducible refine zst (L:=[44,41,31,100]) ?_ ?_); exact rfl)
   unfold Hid
   refine wpList_allocB rfl 100 #[.slice none 0 0,I 0,.bool false,I 0,.slice none 0 0,.slice none 0 0] (by kernel_rfl) (fun b1 w2_ M2=>?_)
   have D_b0_b1:=zld B_b0 M2
   replace B_b0:=zmo M2 B_b0
   have B_b1:=zmb M2
   replace HC:=zme M2 HC
   replace HB:=zme M2 HB
   replace HG:=zme M2 HG
   replace HF:=zme M2 HF
   replace EW:=zet EW M2
   have A_b0 : Hid (b0 = w.heap.size + 0):=by unfold Hid; have q0:=M1.out.at_; have r0:=M1.out.size; omega
   have N_b0:=znb HK A_b0 (by decide)
   have O_b0:=zob A_b0
   have A_b1 : Hid (b1 = w.heap.size + 1):=by unfold Hid; have q0:=M1.out.at_; have r0:=M1.out.size; have q1:=M2.out.at_; have r1:=M2.out.size; omega
   have N_b1:=znb HK A_b1 (by decide)
   have O_b1:=zob A_b1
   have c4:=cell_of (i:=4) B_b0.out rfl
   have cx:=HF.out.out.1
   go_wp2_with fail
   clear c4 cx
   have hl:=refReadAnswer_any bv b w2_ HF.out.out.2
   rw [HRA.out] at hl
   refine Calls.exts hl (fun wa ea=>?_)
   clear hl
   replace B_b0:=zbx B_b0 ea
   replace B_b1:=zbx B_b1 ea
   replace HC:=zrx HC ea
   replace HB:=zrx HB ea
   replace HG:=zrx HG ea
   replace HF:=zrx HF ea
   replace EW:=Lib.hid (EW.out.trans ea)
   go_wp2_with ((with_reducible refine zst (L:=[44,41,31,100]) ?_ ?_); exact rfl)
   unfold Hid
   refine wpList_allocB rfl 59 #[I 0,I 0,I 0,I 0] (by kernel_rfl) (fun b2 w3_ M3=>?_)
   have D_b0_b2:=zld B_b0 M3
   have D_b1_b2:=zld B_b1 M3
   obtain ⟨B1,HB1⟩ : ∃ X : Nat → Prop,Hid (∀ k,X k ↔ (B k ∧ k ≠ b2)):=⟨_,fun _=>Iff.rfl⟩
   replace HC:=zmd HB1 M3 HC
   replace HB:=zmd HB1 M3 HB
   replace HG:=zmd HB1 M3 HG
   replace HF:=zmd HB1 M3 HF
   replace N_b0:=znw HB1 N_b0
   replace N_b1:=znw HB1 N_b1
   have N_b2 : Hid (¬ B1 b2):=fun h=>((HB1.out _).1 h).2 rfl
   have I_B1 : Hid (∀ k,B1 k → B k):=fun k h=>((HB1.out k).1 h).1
   have O_b2 : Hid (w.heap.size ≤ b2):=by unfold Hid; have q2:=M3.out.at_; have q3:=EW.out.size; omega
   replace B_b0:=zmo M3 B_b0
   replace B_b1:=zmo M3 B_b1
   have B_b2:=zmb M3
   replace HC:=zme M3 HC
   replace HB:=zme M3 HB
   replace HG:=zme M3 HG
   replace HF:=zme M3 HF
   replace EW:=zet EW M3
   go_wp2_with ((with_reducible refine zst (L:=[44,41,31,100]) ?_ ?_); exact rfl)
   unfold Hid
   refine wpList_storeW rfl 59 (.tmp 11) (.tmp 23) rfl b2 rfl [I ac,I at2,I re,I rn] (rfl) B_b2 rfl (by kernel_rfl) rfl (fun w4_ M4=>?_)
   replace B_b0:=zwl M4 B_b0 D_b0_b2
   replace B_b1:=zwl M4 B_b1 D_b1_b2
   replace B_b2:=zwb M4
   replace HC:=zwr M4 HC N_b2
   replace HB:=zwr M4 HB N_b2
   replace HG:=zwr M4 HG N_b2
   replace HF:=zwr M4 HF N_b2
   replace EW:=zwe M4 EW O_b2
   have c4:=cell_of (i:=4) B_b0.out rfl
   go_wp2_with ((with_reducible refine zst (L:=[44,41,31,100]) ?_ ?_); exact rfl)
   unfold Hid
   clear c4
   refine wpList_storeP rfl 32 (.tmp 28) (.tmp 27) rfl b0 4 rfl [.slice (some ⟨xb,xo,none⟩) 0 0] (rfl) B_b0 rfl (by kernel_rfl) rfl [.slice ca cl.length cc,I at_,.bool sent,I gen,.slice (some ⟨xb,xo,none⟩) 0 0,.slice ga gl.length gc] rfl (fun w5_ M5=>?_)
   replace B_b0:=zwb M5
   replace B_b1:=zwg M5 B_b1 D_b0_b1
   replace B_b2:=zwg M5 B_b2 D_b0_b2
   replace HC:=zwr M5 HC N_b0
   replace HB:=zwr M5 HB N_b0
   replace HG:=zwr M5 HG N_b0
   replace HF:=zwr M5 HF N_b0
   replace EW:=zwe M5 EW O_b0
   have d0:=cell_of (i:=0) B_b2.out rfl
   have d1:=cell_of (i:=1) B_b2.out rfl
   have c1:=cell_of (i:=1) B_b0.out rfl
   have c2:=cell_of (i:=2) B_b0.out rfl
   go_wp2_with ((with_reducible refine zst (L:=[44,41,31,100]) ?_ ?_); exact rfl)
   unfold Hid
   clear d0 d1 c1 c2
   refine wpList_loadW rfl 100 (.tmp 4) rfl b0 rfl B_b0 Tryz.underlying100 (by kernel_rfl) (fun v62 H_v62=>?_)
   go_wp2_with ((with_reducible refine zst (L:=[44,41,31,100]) ?_ ?_); exact rfl)
   unfold Hid
   refine wpList_storeW rfl 100 (.tmp 8) (.tmp 62) rfl b1 rfl _ (zcv H_v62) B_b1 rfl (by kernel_rfl) rfl (fun w6_ M6=>?_)
   replace B_b0:=zwl M6 B_b0 D_b0_b1
   replace B_b1:=zwb M6
   replace B_b2:=zwg M6 B_b2 D_b1_b2
   replace HC:=zwr M6 HC N_b1
   replace HB:=zwr M6 HB N_b1
   replace HG:=zwr M6 HG N_b1
   replace HF:=zwr M6 HF N_b1
   replace EW:=zwe M6 EW O_b1
   go_wp2
   have z0:=run_box (P:=Tryz.prog) 100 B_b1.out Tryz.underlying100 (by kernel_rfl)
   refine bodyPost_ret (by simp [results,Tryz.results45,asAddr,z0]; rfl) rfl ?_
   exact ⟨_,rfl,EW.out,Rd.widen (A:=B1) (tup3_rd (cn_rd (c:=⟨cl,at_,sent,gen,[],gl⟩) HC.out HB.out HG.out) (Rd.all fun w=>bytes_nil w)) (fun k _ h=>HK.out.2.2.2 k (I_B1.out k h))⟩
  subst a1
  by_cases a2 : ac = me
  case neg =>
   rw [hX0,if_neg (fun h=>a2 h.2.1)]
   have hb_a2 : (ac == me) = false:=by simpa using a2
   clear hX0
   go_enter Tryz.func45,Tryz.ntmps45
   go_wp2_with ((with_reducible refine zst (L:=[44,41,31,100]) ?_ ?_); exact rfl)
   unfold Hid
   refine wpList_boxB rfl 100 (.tmp 0) rfl #[.slice ca cl.length cc,I at_,.bool sent,I gen,.slice (some ⟨xb,xo,none⟩) 1 1,.slice ga gl.length gc] rfl (fun b0 w1_ M1=>?_)
   have B_b0:=zmb M1
   replace HC:=zme M1 HC
   replace HB:=zme M1 HB
   replace HG:=zme M1 HG
   replace HF:=zme M1 HF
   replace EW:=zet EW M1
   go_wp2_with ((with_reducible refine zst (L:=[44,41,31,100]) ?_ ?_); exact rfl)
   unfold Hid
   refine wpList_allocB rfl 100 #[.slice none 0 0,I 0,.bool false,I 0,.slice none 0 0,.slice none 0 0] (by kernel_rfl) (fun b1 w2_ M2=>?_)
   have D_b0_b1:=zld B_b0 M2
   replace B_b0:=zmo M2 B_b0
   have B_b1:=zmb M2
   replace HC:=zme M2 HC
   replace HB:=zme M2 HB
   replace HG:=zme M2 HG
   replace HF:=zme M2 HF
   replace EW:=zet EW M2
   have A_b0 : Hid (b0 = w.heap.size + 0):=by unfold Hid; have q0:=M1.out.at_; have r0:=M1.out.size; omega
   have N_b0:=znb HK A_b0 (by decide)
   have O_b0:=zob A_b0
   have A_b1 : Hid (b1 = w.heap.size + 1):=by unfold Hid; have q0:=M1.out.at_; have r0:=M1.out.size; have q1:=M2.out.at_; have r1:=M2.out.size; omega
   have N_b1:=znb HK A_b1 (by decide)
   have O_b1:=zob A_b1
   have c4:=cell_of (i:=4) B_b0.out rfl
   have cx:=HF.out.out.1
   go_wp2_with fail
   clear c4 cx
   have hl:=refReadAnswer_any bv b w2_ HF.out.out.2
   rw [HRA.out] at hl
   refine Calls.exts hl (fun wa ea=>?_)
   clear hl
   replace B_b0:=zbx B_b0 ea
   replace B_b1:=zbx B_b1 ea
   replace HC:=zrx HC ea
   replace HB:=zrx HB ea
   replace HG:=zrx HG ea
   replace HF:=zrx HF ea
   replace EW:=Lib.hid (EW.out.trans ea)
   go_wp2_with ((with_reducible refine zst (L:=[44,41,31,100]) ?_ ?_); exact rfl)
   unfold Hid
   refine wpList_allocB rfl 59 #[I 0,I 0,I 0,I 0] (by kernel_rfl) (fun b2 w3_ M3=>?_)
   have D_b0_b2:=zld B_b0 M3
   have D_b1_b2:=zld B_b1 M3
   obtain ⟨B1,HB1⟩ : ∃ X : Nat → Prop,Hid (∀ k,X k ↔ (B k ∧ k ≠ b2)):=⟨_,fun _=>Iff.rfl⟩
   replace HC:=zmd HB1 M3 HC
   replace HB:=zmd HB1 M3 HB
   replace HG:=zmd HB1 M3 HG
   replace HF:=zmd HB1 M3 HF
   replace N_b0:=znw HB1 N_b0
   replace N_b1:=znw HB1 N_b1
   have N_b2 : Hid (¬ B1 b2):=fun h=>((HB1.out _).1 h).2 rfl
   have I_B1 : Hid (∀ k,B1 k → B k):=fun k h=>((HB1.out k).1 h).1
   have O_b2 : Hid (w.heap.size ≤ b2):=by unfold Hid; have q2:=M3.out.at_; have q3:=EW.out.size; omega
   replace B_b0:=zmo M3 B_b0
   replace B_b1:=zmo M3 B_b1
   have B_b2:=zmb M3
   replace HC:=zme M3 HC
   replace HB:=zme M3 HB
   replace HG:=zme M3 HG
   replace HF:=zme M3 HF
   replace EW:=zet EW M3
   go_wp2_with ((with_reducible refine zst (L:=[44,41,31,100]) ?_ ?_); exact rfl)
   unfold Hid
   refine wpList_storeW rfl 59 (.tmp 11) (.tmp 23) rfl b2 rfl [I ac,I at2,I re,I rn] (rfl) B_b2 rfl (by kernel_rfl) rfl (fun w4_ M4=>?_)
   replace B_b0:=zwl M4 B_b0 D_b0_b2
   replace B_b1:=zwl M4 B_b1 D_b1_b2
   replace B_b2:=zwb M4
   replace HC:=zwr M4 HC N_b2
   replace HB:=zwr M4 HB N_b2
   replace HG:=zwr M4 HG N_b2
   replace HF:=zwr M4 HF N_b2
   replace EW:=zwe M4 EW O_b2
   have c4:=cell_of (i:=4) B_b0.out rfl
   go_wp2_with ((with_reducible refine zst (L:=[44,41,31,100]) ?_ ?_); exact rfl)
   unfold Hid
   clear c4
   refine wpList_storeP rfl 32 (.tmp 28) (.tmp 27) rfl b0 4 rfl [.slice (some ⟨xb,xo,none⟩) 0 0] (rfl) B_b0 rfl (by kernel_rfl) rfl [.slice ca cl.length cc,I at_,.bool sent,I gen,.slice (some ⟨xb,xo,none⟩) 0 0,.slice ga gl.length gc] rfl (fun w5_ M5=>?_)
   replace B_b0:=zwb M5
   replace B_b1:=zwg M5 B_b1 D_b0_b1
   replace B_b2:=zwg M5 B_b2 D_b0_b2
   replace HC:=zwr M5 HC N_b0
   replace HB:=zwr M5 HB N_b0
   replace HG:=zwr M5 HG N_b0
   replace HF:=zwr M5 HF N_b0
   replace EW:=zwe M5 EW O_b0
   have d0:=cell_of (i:=0) B_b2.out rfl
   have d1:=cell_of (i:=1) B_b2.out rfl
   have c1:=cell_of (i:=1) B_b0.out rfl
   have c2:=cell_of (i:=2) B_b0.out rfl
   go_wp2_with ((with_reducible refine zst (L:=[44,41,31,100]) ?_ ?_); exact rfl)
   unfold Hid
   clear d0 d1 c1 c2
   refine wpList_loadW rfl 100 (.tmp 4) rfl b0 rfl B_b0 Tryz.underlying100 (by kernel_rfl) (fun v62 H_v62=>?_)
   go_wp2_with ((with_reducible refine zst (L:=[44,41,31,100]) ?_ ?_); exact rfl)
   unfold Hid
   refine wpList_storeW rfl 100 (.tmp 8) (.tmp 62) rfl b1 rfl _ (zcv H_v62) B_b1 rfl (by kernel_rfl) rfl (fun w6_ M6=>?_)
   replace B_b0:=zwl M6 B_b0 D_b0_b1
   replace B_b1:=zwb M6
   replace B_b2:=zwg M6 B_b2 D_b1_b2
   replace HC:=zwr M6 HC N_b1
   replace HB:=zwr M6 HB N_b1
   replace HG:=zwr M6 HG N_b1
   replace HF:=zwr M6 HF N_b1
   replace EW:=zwe M6 EW O_b1
   go_wp2
   have z0:=run_box (P:=Tryz.prog) 100 B_b1.out Tryz.underlying100 (by kernel_rfl)
   refine bodyPost_ret (by simp [results,Tryz.results45,asAddr,z0]; rfl) rfl ?_
   exact ⟨_,rfl,EW.out,Rd.widen (A:=B1) (tup3_rd (cn_rd (c:=⟨cl,at_,sent,gen,[],gl⟩) HC.out HB.out HG.out) (Rd.all fun w=>bytes_nil w)) (fun k _ h=>HK.out.2.2.2 k (I_B1.out k h))⟩
  subst a2
  by_cases a3 : at2 = at_
  case neg =>
   rw [hX0,if_neg (fun h=>a3 h.2.2.1)]
   have hb_a3 : (at2 == at_) = false:=by simpa using a3
   clear hX0
   go_enter Tryz.func45,Tryz.ntmps45
   go_wp2_with ((with_reducible refine zst (L:=[44,41,31,100]) ?_ ?_); exact rfl)
   unfold Hid
   refine wpList_boxB rfl 100 (.tmp 0) rfl #[.slice ca cl.length cc,I at_,.bool sent,I gen,.slice (some ⟨xb,xo,none⟩) 1 1,.slice ga gl.length gc] rfl (fun b0 w1_ M1=>?_)
   have B_b0:=zmb M1
   replace HC:=zme M1 HC
   replace HB:=zme M1 HB
   replace HG:=zme M1 HG
   replace HF:=zme M1 HF
   replace EW:=zet EW M1
   go_wp2_with ((with_reducible refine zst (L:=[44,41,31,100]) ?_ ?_); exact rfl)
   unfold Hid
   refine wpList_allocB rfl 100 #[.slice none 0 0,I 0,.bool false,I 0,.slice none 0 0,.slice none 0 0] (by kernel_rfl) (fun b1 w2_ M2=>?_)
   have D_b0_b1:=zld B_b0 M2
   replace B_b0:=zmo M2 B_b0
   have B_b1:=zmb M2
   replace HC:=zme M2 HC
   replace HB:=zme M2 HB
   replace HG:=zme M2 HG
   replace HF:=zme M2 HF
   replace EW:=zet EW M2
   have A_b0 : Hid (b0 = w.heap.size + 0):=by unfold Hid; have q0:=M1.out.at_; have r0:=M1.out.size; omega
   have N_b0:=znb HK A_b0 (by decide)
   have O_b0:=zob A_b0
   have A_b1 : Hid (b1 = w.heap.size + 1):=by unfold Hid; have q0:=M1.out.at_; have r0:=M1.out.size; have q1:=M2.out.at_; have r1:=M2.out.size; omega
   have N_b1:=znb HK A_b1 (by decide)
   have O_b1:=zob A_b1
   have c4:=cell_of (i:=4) B_b0.out rfl
   have cx:=HF.out.out.1
   go_wp2_with fail
   clear c4 cx
   have hl:=refReadAnswer_any bv b w2_ HF.out.out.2
   rw [HRA.out] at hl
   refine Calls.exts hl (fun wa ea=>?_)
   clear hl
   replace B_b0:=zbx B_b0 ea
   replace B_b1:=zbx B_b1 ea
   replace HC:=zrx HC ea
   replace HB:=zrx HB ea
   replace HG:=zrx HG ea
   replace HF:=zrx HF ea
   replace EW:=Lib.hid (EW.out.trans ea)
   go_wp2_with ((with_reducible refine zst (L:=[44,41,31,100]) ?_ ?_); exact rfl)
   unfold Hid
   refine wpList_allocB rfl 59 #[I 0,I 0,I 0,I 0] (by kernel_rfl) (fun b2 w3_ M3=>?_)
   have D_b0_b2:=zld B_b0 M3
   have D_b1_b2:=zld B_b1 M3
   obtain ⟨B1,HB1⟩ : ∃ X : Nat → Prop,Hid (∀ k,X k ↔ (B k ∧ k ≠ b2)):=⟨_,fun _=>Iff.rfl⟩
   replace HC:=zmd HB1 M3 HC
   replace HB:=zmd HB1 M3 HB
   replace HG:=zmd HB1 M3 HG
   replace HF:=zmd HB1 M3 HF
   replace N_b0:=znw HB1 N_b0
   replace N_b1:=znw HB1 N_b1
   have N_b2 : Hid (¬ B1 b2):=fun h=>((HB1.out _).1 h).2 rfl
   have I_B1 : Hid (∀ k,B1 k → B k):=fun k h=>((HB1.out k).1 h).1
   have O_b2 : Hid (w.heap.size ≤ b2):=by unfold Hid; have q2:=M3.out.at_; have q3:=EW.out.size; omega
   replace B_b0:=zmo M3 B_b0
   replace B_b1:=zmo M3 B_b1
   have B_b2:=zmb M3
   replace HC:=zme M3 HC
   replace HB:=zme M3 HB
   replace HG:=zme M3 HG
   replace HF:=zme M3 HF
   replace EW:=zet EW M3
   go_wp2_with ((with_reducible refine zst (L:=[44,41,31,100]) ?_ ?_); exact rfl)
   unfold Hid
   refine wpList_storeW rfl 59 (.tmp 11) (.tmp 23) rfl b2 rfl [I ac,I at2,I re,I rn] (rfl) B_b2 rfl (by kernel_rfl) rfl (fun w4_ M4=>?_)
   replace B_b0:=zwl M4 B_b0 D_b0_b2
   replace B_b1:=zwl M4 B_b1 D_b1_b2
   replace B_b2:=zwb M4
   replace HC:=zwr M4 HC N_b2
   replace HB:=zwr M4 HB N_b2
   replace HG:=zwr M4 HG N_b2
   replace HF:=zwr M4 HF N_b2
   replace EW:=zwe M4 EW O_b2
   have c4:=cell_of (i:=4) B_b0.out rfl
   go_wp2_with ((with_reducible refine zst (L:=[44,41,31,100]) ?_ ?_); exact rfl)
   unfold Hid
   clear c4
   refine wpList_storeP rfl 32 (.tmp 28) (.tmp 27) rfl b0 4 rfl [.slice (some ⟨xb,xo,none⟩) 0 0] (rfl) B_b0 rfl (by kernel_rfl) rfl [.slice ca cl.length cc,I at_,.bool sent,I gen,.slice (some ⟨xb,xo,none⟩) 0 0,.slice ga gl.length gc] rfl (fun w5_ M5=>?_)
   replace B_b0:=zwb M5
   replace B_b1:=zwg M5 B_b1 D_b0_b1
   replace B_b2:=zwg M5 B_b2 D_b0_b2
   replace HC:=zwr M5 HC N_b0
   replace HB:=zwr M5 HB N_b0
   replace HG:=zwr M5 HG N_b0
   replace HF:=zwr M5 HF N_b0
   replace EW:=zwe M5 EW O_b0
   have d0:=cell_of (i:=0) B_b2.out rfl
   have d1:=cell_of (i:=1) B_b2.out rfl
   have c1:=cell_of (i:=1) B_b0.out rfl
   have c2:=cell_of (i:=2) B_b0.out rfl
   go_wp2_with ((with_reducible refine zst (L:=[44,41,31,100]) ?_ ?_); exact rfl)
   unfold Hid
   clear d0 d1 c1 c2
   refine wpList_loadW rfl 100 (.tmp 4) rfl b0 rfl B_b0 Tryz.underlying100 (by kernel_rfl) (fun v62 H_v62=>?_)
   go_wp2_with ((with_reducible refine zst (L:=[44,41,31,100]) ?_ ?_); exact rfl)
   unfold Hid
   refine wpList_storeW rfl 100 (.tmp 8) (.tmp 62) rfl b1 rfl _ (zcv H_v62) B_b1 rfl (by kernel_rfl) rfl (fun w6_ M6=>?_)
   replace B_b0:=zwl M6 B_b0 D_b0_b1
   replace B_b1:=zwb M6
   replace B_b2:=zwg M6 B_b2 D_b1_b2
   replace HC:=zwr M6 HC N_b1
   replace HB:=zwr M6 HB N_b1
   replace HG:=zwr M6 HG N_b1
   replace HF:=zwr M6 HF N_b1
   replace EW:=zwe M6 EW O_b1
   go_wp2
   have z0:=run_box (P:=Tryz.prog) 100 B_b1.out Tryz.underlying100 (by kernel_rfl)
   refine bodyPost_ret (by simp [results,Tryz.results45,asAddr,z0]; rfl) rfl ?_
   exact ⟨_,rfl,EW.out,Rd.widen (A:=B1) (tup3_rd (cn_rd (c:=⟨cl,at_,sent,gen,[],gl⟩) HC.out HB.out HG.out) (Rd.all fun w=>bytes_nil w)) (fun k _ h=>HK.out.2.2.2 k (I_B1.out k h))⟩
  replace a3:=a3.symm
  subst a3
  cases sent
  case false =>
   rw [hX0,if_neg (fun h=>by cases h.2.2.2)]
   clear hX0
   go_enter Tryz.func45,Tryz.ntmps45
   go_wp2_with ((with_reducible refine zst (L:=[44,41,31,100]) ?_ ?_); exact rfl)
   unfold Hid
   refine wpList_boxB rfl 100 (.tmp 0) rfl #[.slice ca cl.length cc,I at_,.bool false,I gen,.slice (some ⟨xb,xo,none⟩) 1 1,.slice ga gl.length gc] rfl (fun b0 w1_ M1=>?_)
   have B_b0:=zmb M1
   replace HC:=zme M1 HC
   replace HB:=zme M1 HB
   replace HG:=zme M1 HG
   replace HF:=zme M1 HF
   replace EW:=zet EW M1
   go_wp2_with ((with_reducible refine zst (L:=[44,41,31,100]) ?_ ?_); exact rfl)
   unfold Hid
   refine wpList_allocB rfl 100 #[.slice none 0 0,I 0,.bool false,I 0,.slice none 0 0,.slice none 0 0] (by kernel_rfl) (fun b1 w2_ M2=>?_)
   have D_b0_b1:=zld B_b0 M2
   replace B_b0:=zmo M2 B_b0
   have B_b1:=zmb M2
   replace HC:=zme M2 HC
   replace HB:=zme M2 HB
   replace HG:=zme M2 HG
   replace HF:=zme M2 HF
   replace EW:=zet EW M2
   have A_b0 : Hid (b0 = w.heap.size + 0):=by unfold Hid; have q0:=M1.out.at_; have r0:=M1.out.size; omega
   have N_b0:=znb HK A_b0 (by decide)
   have O_b0:=zob A_b0
   have A_b1 : Hid (b1 = w.heap.size + 1):=by unfold Hid; have q0:=M1.out.at_; have r0:=M1.out.size; have q1:=M2.out.at_; have r1:=M2.out.size; omega
   have N_b1:=znb HK A_b1 (by decide)
   have O_b1:=zob A_b1
   have c4:=cell_of (i:=4) B_b0.out rfl
   have cx:=HF.out.out.1
   go_wp2_with fail
   clear c4 cx
   have hl:=refReadAnswer_any bv b w2_ HF.out.out.2
   rw [HRA.out] at hl
   refine Calls.exts hl (fun wa ea=>?_)
   clear hl
   replace B_b0:=zbx B_b0 ea
   replace B_b1:=zbx B_b1 ea
   replace HC:=zrx HC ea
   replace HB:=zrx HB ea
   replace HG:=zrx HG ea
   replace HF:=zrx HF ea
   replace EW:=Lib.hid (EW.out.trans ea)
   go_wp2_with ((with_reducible refine zst (L:=[44,41,31,100]) ?_ ?_); exact rfl)
   unfold Hid
   refine wpList_allocB rfl 59 #[I 0,I 0,I 0,I 0] (by kernel_rfl) (fun b2 w3_ M3=>?_)
   have D_b0_b2:=zld B_b0 M3
   have D_b1_b2:=zld B_b1 M3
   obtain ⟨B1,HB1⟩ : ∃ X : Nat → Prop,Hid (∀ k,X k ↔ (B k ∧ k ≠ b2)):=⟨_,fun _=>Iff.rfl⟩
   replace HC:=zmd HB1 M3 HC
   replace HB:=zmd HB1 M3 HB
   replace HG:=zmd HB1 M3 HG
   replace HF:=zmd HB1 M3 HF
   replace N_b0:=znw HB1 N_b0
   replace N_b1:=znw HB1 N_b1
   have N_b2 : Hid (¬ B1 b2):=fun h=>((HB1.out _).1 h).2 rfl
   have I_B1 : Hid (∀ k,B1 k → B k):=fun k h=>((HB1.out k).1 h).1
   have O_b2 : Hid (w.heap.size ≤ b2):=by unfold Hid; have q2:=M3.out.at_; have q3:=EW.out.size; omega
   replace B_b0:=zmo M3 B_b0
   replace B_b1:=zmo M3 B_b1
   have B_b2:=zmb M3
   replace HC:=zme M3 HC
   replace HB:=zme M3 HB
   replace HG:=zme M3 HG
   replace HF:=zme M3 HF
   replace EW:=zet EW M3
   go_wp2_with ((with_reducible refine zst (L:=[44,41,31,100]) ?_ ?_); exact rfl)
   unfold Hid
   refine wpList_storeW rfl 59 (.tmp 11) (.tmp 23) rfl b2 rfl [I ac,I at_,I re,I rn] (rfl) B_b2 rfl (by kernel_rfl) rfl (fun w4_ M4=>?_)
   replace B_b0:=zwl M4 B_b0 D_b0_b2
   replace B_b1:=zwl M4 B_b1 D_b1_b2
   replace B_b2:=zwb M4
   replace HC:=zwr M4 HC N_b2
   replace HB:=zwr M4 HB N_b2
   replace HG:=zwr M4 HG N_b2
   replace HF:=zwr M4 HF N_b2
   replace EW:=zwe M4 EW O_b2
   have c4:=cell_of (i:=4) B_b0.out rfl
   go_wp2_with ((with_reducible refine zst (L:=[44,41,31,100]) ?_ ?_); exact rfl)
   unfold Hid
   clear c4
   refine wpList_storeP rfl 32 (.tmp 28) (.tmp 27) rfl b0 4 rfl [.slice (some ⟨xb,xo,none⟩) 0 0] (rfl) B_b0 rfl (by kernel_rfl) rfl [.slice ca cl.length cc,I at_,.bool false,I gen,.slice (some ⟨xb,xo,none⟩) 0 0,.slice ga gl.length gc] rfl (fun w5_ M5=>?_)
   replace B_b0:=zwb M5
   replace B_b1:=zwg M5 B_b1 D_b0_b1
   replace B_b2:=zwg M5 B_b2 D_b0_b2
   replace HC:=zwr M5 HC N_b0
   replace HB:=zwr M5 HB N_b0
   replace HG:=zwr M5 HG N_b0
   replace HF:=zwr M5 HF N_b0
   replace EW:=zwe M5 EW O_b0
   have d0:=cell_of (i:=0) B_b2.out rfl
   have d1:=cell_of (i:=1) B_b2.out rfl
   have c1:=cell_of (i:=1) B_b0.out rfl
   have c2:=cell_of (i:=2) B_b0.out rfl
   go_wp2_with ((with_reducible refine zst (L:=[44,41,31,100]) ?_ ?_); exact rfl)
   unfold Hid
   clear d0 d1 c1 c2
   refine wpList_loadW rfl 100 (.tmp 4) rfl b0 rfl B_b0 Tryz.underlying100 (by kernel_rfl) (fun v62 H_v62=>?_)
   go_wp2_with ((with_reducible refine zst (L:=[44,41,31,100]) ?_ ?_); exact rfl)
   unfold Hid
   refine wpList_storeW rfl 100 (.tmp 8) (.tmp 62) rfl b1 rfl _ (zcv H_v62) B_b1 rfl (by kernel_rfl) rfl (fun w6_ M6=>?_)
   replace B_b0:=zwl M6 B_b0 D_b0_b1
   replace B_b1:=zwb M6
   replace B_b2:=zwg M6 B_b2 D_b1_b2
   replace HC:=zwr M6 HC N_b1
   replace HB:=zwr M6 HB N_b1
   replace HG:=zwr M6 HG N_b1
   replace HF:=zwr M6 HF N_b1
   replace EW:=zwe M6 EW O_b1
   go_wp2
   have z0:=run_box (P:=Tryz.prog) 100 B_b1.out Tryz.underlying100 (by kernel_rfl)
   refine bodyPost_ret (by simp [results,Tryz.results45,asAddr,z0]; rfl) rfl ?_
   exact ⟨_,rfl,EW.out,Rd.widen (A:=B1) (tup3_rd (cn_rd (c:=⟨cl,at_,false,gen,[],gl⟩) HC.out HB.out HG.out) (Rd.all fun w=>bytes_nil w)) (fun k _ h=>HK.out.2.2.2 k (I_B1.out k h))⟩
  rw [hX0,if_pos ⟨rfl,rfl,rfl,rfl⟩]
  clear hX0
  go_enter Tryz.func45,Tryz.ntmps45
  go_wp2_with ((with_reducible refine zst (L:=[44,41,31,100]) ?_ ?_); exact rfl)
  unfold Hid
  refine wpList_boxB rfl 100 (.tmp 0) rfl #[.slice ca cl.length cc,I at_,.bool true,I gen,.slice (some ⟨xb,xo,none⟩) 1 1,.slice ga gl.length gc] rfl (fun b0 w1_ M1=>?_)
  have B_b0:=zmb M1
  replace HC:=zme M1 HC
  replace HB:=zme M1 HB
  replace HG:=zme M1 HG
  replace HF:=zme M1 HF
  replace EW:=zet EW M1
  go_wp2_with ((with_reducible refine zst (L:=[44,41,31,100]) ?_ ?_); exact rfl)
  unfold Hid
  refine wpList_allocB rfl 100 #[.slice none 0 0,I 0,.bool false,I 0,.slice none 0 0,.slice none 0 0] (by kernel_rfl) (fun b1 w2_ M2=>?_)
  have D_b0_b1:=zld B_b0 M2
  replace B_b0:=zmo M2 B_b0
  have B_b1:=zmb M2
  replace HC:=zme M2 HC
  replace HB:=zme M2 HB
  replace HG:=zme M2 HG
  replace HF:=zme M2 HF
  replace EW:=zet EW M2
  have A_b0 : Hid (b0 = w.heap.size + 0):=by unfold Hid; have q0:=M1.out.at_; have r0:=M1.out.size; omega
  have N_b0:=znb HK A_b0 (by decide)
  have O_b0:=zob A_b0
  have A_b1 : Hid (b1 = w.heap.size + 1):=by unfold Hid; have q0:=M1.out.at_; have r0:=M1.out.size; have q1:=M2.out.at_; have r1:=M2.out.size; omega
  have N_b1:=znb HK A_b1 (by decide)
  have O_b1:=zob A_b1
  have c4:=cell_of (i:=4) B_b0.out rfl
  have cx:=HF.out.out.1
  go_wp2_with fail
  clear c4 cx
  have hl:=refReadAnswer_any bv b w2_ HF.out.out.2
  rw [HRA.out] at hl
  refine Calls.exts hl (fun wa ea=>?_)
  clear hl
  replace B_b0:=zbx B_b0 ea
  replace B_b1:=zbx B_b1 ea
  replace HC:=zrx HC ea
  replace HB:=zrx HB ea
  replace HG:=zrx HG ea
  replace HF:=zrx HF ea
  replace EW:=Lib.hid (EW.out.trans ea)
  go_wp2_with ((with_reducible refine zst (L:=[44,41,31,100]) ?_ ?_); exact rfl)
  unfold Hid
  refine wpList_allocB rfl 59 #[I 0,I 0,I 0,I 0] (by kernel_rfl) (fun b2 w3_ M3=>?_)
  have D_b0_b2:=zld B_b0 M3
  have D_b1_b2:=zld B_b1 M3
  obtain ⟨B1,HB1⟩ : ∃ X : Nat → Prop,Hid (∀ k,X k ↔ (B k ∧ k ≠ b2)):=⟨_,fun _=>Iff.rfl⟩
  replace HC:=zmd HB1 M3 HC
  replace HB:=zmd HB1 M3 HB
  replace HG:=zmd HB1 M3 HG
  replace HF:=zmd HB1 M3 HF
  replace N_b0:=znw HB1 N_b0
  replace N_b1:=znw HB1 N_b1
  have N_b2 : Hid (¬ B1 b2):=fun h=>((HB1.out _).1 h).2 rfl
  have I_B1 : Hid (∀ k,B1 k → B k):=fun k h=>((HB1.out k).1 h).1
  have O_b2 : Hid (w.heap.size ≤ b2):=by unfold Hid; have q2:=M3.out.at_; have q3:=EW.out.size; omega
  replace B_b0:=zmo M3 B_b0
  replace B_b1:=zmo M3 B_b1
  have B_b2:=zmb M3
  replace HC:=zme M3 HC
  replace HB:=zme M3 HB
  replace HG:=zme M3 HG
  replace HF:=zme M3 HF
  replace EW:=zet EW M3
  go_wp2_with ((with_reducible refine zst (L:=[44,41,31,100]) ?_ ?_); exact rfl)
  unfold Hid
  refine wpList_storeW rfl 59 (.tmp 11) (.tmp 23) rfl b2 rfl [I ac,I at_,I re,I rn] (rfl) B_b2 rfl (by kernel_rfl) rfl (fun w4_ M4=>?_)
  replace B_b0:=zwl M4 B_b0 D_b0_b2
  replace B_b1:=zwl M4 B_b1 D_b1_b2
  replace B_b2:=zwb M4
  replace HC:=zwr M4 HC N_b2
  replace HB:=zwr M4 HB N_b2
  replace HG:=zwr M4 HG N_b2
  replace HF:=zwr M4 HF N_b2
  replace EW:=zwe M4 EW O_b2
  have c4:=cell_of (i:=4) B_b0.out rfl
  go_wp2_with ((with_reducible refine zst (L:=[44,41,31,100]) ?_ ?_); exact rfl)
  unfold Hid
  clear c4
  refine wpList_storeP rfl 32 (.tmp 28) (.tmp 27) rfl b0 4 rfl [.slice (some ⟨xb,xo,none⟩) 0 0] (rfl) B_b0 rfl (by kernel_rfl) rfl [.slice ca cl.length cc,I at_,.bool true,I gen,.slice (some ⟨xb,xo,none⟩) 0 0,.slice ga gl.length gc] rfl (fun w5_ M5=>?_)
  replace B_b0:=zwb M5
  replace B_b1:=zwg M5 B_b1 D_b0_b1
  replace B_b2:=zwg M5 B_b2 D_b0_b2
  replace HC:=zwr M5 HC N_b0
  replace HB:=zwr M5 HB N_b0
  replace HG:=zwr M5 HG N_b0
  replace HF:=zwr M5 HF N_b0
  replace EW:=zwe M5 EW O_b0
  have d0:=cell_of (i:=0) B_b2.out rfl
  have d1:=cell_of (i:=1) B_b2.out rfl
  have c1:=cell_of (i:=1) B_b0.out rfl
  have c2:=cell_of (i:=2) B_b0.out rfl
  go_wp2_with fail
  clear d0 d1 c1 c2
  have hbx:=B_b0.out
  have hby:=B_b2.out
  have x5:=cell_of (i:=5) hbx rfl
  have y2:=cell_of (i:=2) hby rfl
  have y3:=cell_of (i:=3) hby rfl
  obtain ⟨i0,hi,hz0,hz1,hz2⟩:=info_parts Tryz.infoRp
  have HI:=Lib.hid hi
  clear hi
  refine wp_region_mono_weak 7 [some (.inr (FullOf w5_.heap.size 39 2 0 [])),none,none,some (.inr fun v wx=>wx.ownsRow w5_.heap.size 39 2 v (0 + gl.length) ([] ++ cellsR gl)),none,none,some (.inr fun v wx=>Row wx 2 v 1 (cellsR [⟨re,rn⟩]))] (fun v wx=>wx.ownsRow w5_.heap.size 39 2 v (0 + gl.length + 1) ([] ++ cellsR gl ++ cellsR [⟨re,rn⟩])) (by kernel_rfl) (by kernel_rfl) (by kernel_rfl) ?_ (fun v=>monoOwns _ _ _ _ _ v) ?_
  ·exact ⟨monoFull _ _ _ _ _,trivial,trivial,monoOwns _ _ _ _ _,trivial,trivial,fun _ _ _ he h=>Row.ext h he,trivial⟩
  refine wpM_l _ rfl (fun w' hw' hk=>?_) (fun v48=>?_)
  ·have hsz:=hw'.size
   clear hk
   unfold makes
   go_simp
   exact ⟨(Ext.refl _).alloc _,full_lit #[] 0 hsz (by decide) rfl⟩
  refine wpM_norm (fun K hK=>?_); go_simp; refine hK _ ?_; clear hK K
  iterate 1 (refine wpM_p (fun K hK=>?_); go_simp; first | refine hK _ ?_ | refine ⟨(fun h=>by cases h),hK _ ?_⟩; clear hK K)
  refine wpM_q (.slice ga gl.length gc) rfl (fun w' hw'=>by have q0:=hw'.cell x5; go_simp) ?_
  refine wpM_norm (fun K hK=>?_); go_simp; refine hK _ ?_; clear hK K
  refine wpM_l _ rfl (fun w' hw' hk=>?_) (fun v51=>?_)
  ·have h48 : FullOf w5_.heap.size 39 2 0 [] v48 w':=hk 48 (by decide)
   obtain ⟨vv,ww,hrun,hoo,hee⟩:=run_append_full (P:=Tryz.prog) w' w5_.heap.size 98 98 39 i0 _ 2 16 Tryz.underlying98 HI.out hz0 hz1 hz2 rfl (by decide) v48 0 _ h48 (.slice ga gl.length gc) gl.length _ ((rowOf_rps.1 HG.out.out).ext hw') (cellsR_one _) (by have:=HGL.out; omega) (by decide) hw'.size
   exact makes_append rfl rfl rfl hrun hee hoo
  refine wpM_norm (fun K hK=>?_); go_simp; refine hK _ ?_; clear hK K
  iterate 1 (refine wpM_p (fun K hK=>?_); go_simp; first | refine hK _ ?_ | refine ⟨(fun h=>by cases h),hK _ ?_⟩; clear hK K)
  refine wpM_q (.agg #[I re,I rn]) rfl (fun w' hw'=>by have q0:=hw'.cell y2; have q1:=hw'.cell y3; go_simp) ?_
  refine wpM_norm (fun K hK=>?_); go_simp; refine hK _ ?_; clear hK K
  refine wpM_l _ rfl (fun w' hw' hk=>?_) (fun v54=>?_)
  ·skip
   clear hk
   unfold makes
   go_simp
   exact ⟨(Ext.refl _).alloc _,Row.of_owns (World.ownsRow_lit (base:=0) (size:=2) w' _ 1 (Nat.zero_le _) (by decide) rfl)⟩
  refine wpM_norm (fun K hK=>?_); go_simp; refine hK _ ?_; clear hK K
  refine wpM_nil ⟨_,_,rfl,rfl,rfl,fun w' hw' hk=>?_,fun v55 w9 e9 ho9=>?_⟩
  ·have h51 : w'.ownsRow w5_.heap.size 39 2 v51 (0 + gl.length) ([] ++ cellsR gl):=hk 51 (by decide)
   have h54 : Row w' 2 v54 1 (cellsR [⟨re,rn⟩]):=hk 54 (by decide)
   obtain ⟨vv,ww,hrun,hoo,hgg⟩:=run_append_row (P:=Tryz.prog) w' w5_.heap.size 98 98 39 i0 _ 2 16 Tryz.underlying98 HI.out hz0 hz1 hz2 rfl (by decide) v51 _ _ h51 v54 1 _ h54 (cellsR_one _) (by have:=HGL.out; omega) (by decide) hw'.size
   exact ⟨vv,ww,run_append_op rfl rfl rfl hrun,hw'.grown hgg (fun j hj=>(h51.lt j hj).1),hoo⟩
  clear x5 y2 y3 hbx hby
  have hro : Rd (fun k=>w5_.heap.size ≤ k) (fun w=>RowOf 2 elRp w v55 (gl ++ [⟨re,rn⟩])) w9:=rd_rps (by simpa [cellsR_append] using ho9)
  obtain ⟨qa,qc,hqs⟩:=rowOf_slice hro.out
  rw [show (gl ++ [(⟨re,rn⟩ : Rp)]).length = gl.length + 1 by simp] at hqs
  subst hqs
  have hsz : w.heap.size + 2 ≤ w5_.heap.size:=by have q:=(Array.getElem?_eq_some_iff.1 B_b1.out).1; have q2:=A_b1.out; omega
  have hsz2 : b2 < w5_.heap.size:=(Array.getElem?_eq_some_iff.1 B_b2.out).1
  have HRO:=Lib.hid (hro.widen (B:=B1) (fun k _ h=>(HB1.out k).2 ⟨HK.out.2.1 k (by omega),by omega⟩))
  clear hro ho9 hsz hsz2
  replace B_b0:=zbx B_b0 e9
  replace B_b1:=zbx B_b1 e9
  replace B_b2:=zbx B_b2 e9
  replace HC:=zrx HC e9
  replace HB:=zrx HB e9
  replace HG:=zrx HG e9
  replace HF:=zrx HF e9
  replace EW:=Lib.hid (EW.out.trans e9)
  show wpList _ _ _ [_,_] _ _
  go_wp2_with ((with_reducible refine zst (L:=[44,41,31,100]) ?_ ?_); exact rfl)
  unfold Hid
  refine wpList_storeP rfl 98 (.tmp 56) (.tmp 55) rfl b0 5 rfl [.slice qa (gl.length + 1) qc] (rfl) B_b0 rfl (by kernel_rfl) rfl [.slice ca cl.length cc,I at_,.bool true,I gen,.slice (some ⟨xb,xo,none⟩) 0 0,.slice qa (gl.length + 1) qc] rfl (fun w6_ M6=>?_)
  replace B_b0:=zwb M6
  replace B_b1:=zwg M6 B_b1 D_b0_b1
  replace B_b2:=zwg M6 B_b2 D_b0_b2
  replace HC:=zwr M6 HC N_b0
  replace HB:=zwr M6 HB N_b0
  replace HG:=zwr M6 HG N_b0
  replace HF:=zwr M6 HF N_b0
  replace HRO:=zwr M6 HRO N_b0
  replace EW:=zwe M6 EW O_b0
  have c1:=cell_of (i:=1) B_b0.out rfl
  go_wp2_with ((with_reducible refine zst (L:=[44,41,31,100]) ?_ ?_); exact rfl)
  unfold Hid
  clear c1
  refine wpList_storeP rfl 3 (.tmp 60) (.tmp 59) rfl b0 1 rfl [I (at_ + 1)] (rfl) B_b0 rfl (by kernel_rfl) rfl [.slice ca cl.length cc,I (at_ + 1),.bool true,I gen,.slice (some ⟨xb,xo,none⟩) 0 0,.slice qa (gl.length + 1) qc] rfl (fun w7_ M7=>?_)
  replace B_b0:=zwb M7
  replace B_b1:=zwg M7 B_b1 D_b0_b1
  replace B_b2:=zwg M7 B_b2 D_b0_b2
  replace HC:=zwr M7 HC N_b0
  replace HB:=zwr M7 HB N_b0
  replace HG:=zwr M7 HG N_b0
  replace HF:=zwr M7 HF N_b0
  replace HRO:=zwr M7 HRO N_b0
  replace EW:=zwe M7 EW O_b0
  go_wp2_with ((with_reducible refine zst (L:=[44,41,31,100]) ?_ ?_); exact rfl)
  unfold Hid
  refine wpList_storeP rfl 4 (.tmp 61) (.const (.bool false)) rfl b0 2 rfl [.bool false] (rfl) B_b0 rfl (by kernel_rfl) rfl [.slice ca cl.length cc,I (at_ + 1),.bool false,I gen,.slice (some ⟨xb,xo,none⟩) 0 0,.slice qa (gl.length + 1) qc] rfl (fun w8_ M8=>?_)
  replace B_b0:=zwb M8
  replace B_b1:=zwg M8 B_b1 D_b0_b1
  replace B_b2:=zwg M8 B_b2 D_b0_b2
  replace HC:=zwr M8 HC N_b0
  replace HB:=zwr M8 HB N_b0
  replace HG:=zwr M8 HG N_b0
  replace HF:=zwr M8 HF N_b0
  replace HRO:=zwr M8 HRO N_b0
  replace EW:=zwe M8 EW O_b0
  go_wp2_with ((with_reducible refine zst (L:=[44,41,31,100]) ?_ ?_); exact rfl)
  unfold Hid
  refine wpList_loadW rfl 100 (.tmp 4) rfl b0 rfl B_b0 Tryz.underlying100 (by kernel_rfl) (fun v62 H_v62=>?_)
  go_wp2_with ((with_reducible refine zst (L:=[44,41,31,100]) ?_ ?_); exact rfl)
  unfold Hid
  refine wpList_storeW rfl 100 (.tmp 8) (.tmp 62) rfl b1 rfl _ (zcv H_v62) B_b1 rfl (by kernel_rfl) rfl (fun w9_ M9=>?_)
  replace B_b0:=zwl M9 B_b0 D_b0_b1
  replace B_b1:=zwb M9
  replace B_b2:=zwg M9 B_b2 D_b1_b2
  replace HC:=zwr M9 HC N_b1
  replace HB:=zwr M9 HB N_b1
  replace HG:=zwr M9 HG N_b1
  replace HF:=zwr M9 HF N_b1
  replace HRO:=zwr M9 HRO N_b1
  replace EW:=zwe M9 EW O_b1
  go_wp2
  have z0:=run_box (P:=Tryz.prog) 100 B_b1.out Tryz.underlying100 (by kernel_rfl)
  refine bodyPost_ret (by simp [results,Tryz.results45,asAddr,z0]; rfl) rfl ?_
  exact ⟨_,rfl,EW.out,Rd.widen (A:=B1) (tup3_rd (cn_rd (c:=⟨cl,(at_ + 1),false,gen,[],(gl ++ [⟨re,rn⟩])⟩) HC.out HB.out HRO.out) (Rd.all fun w=>bytes_nil w)) (fun k _ h=>HK.out.2.2.2 k (I_B1.out k h))⟩
 by_cases a1 : ae = 0
 case neg =>
  rw [hX0,if_neg (fun h=>a1 h.1)]
  have hb_a1 : (ae == 0) = false:=by simpa using a1
  clear hX0
  go_enter Tryz.func45,Tryz.ntmps45
  go_wp2_with ((with_reducible refine zst (L:=[44,41,31,100]) ?_ ?_); exact rfl)
  unfold Hid
  refine wpList_boxB rfl 100 (.tmp 0) rfl #[.slice ca cl.length cc,I at_,.bool sent,I gen,.slice (some ⟨xb,xo,none⟩) (l.length + 1) xc,.slice ga gl.length gc] rfl (fun b0 w1_ M1=>?_)
  have B_b0:=zmb M1
  replace HC:=zme M1 HC
  replace HB:=zme M1 HB
  replace HG:=zme M1 HG
  replace HF:=zme M1 HF
  replace EW:=zet EW M1
  go_wp2_with ((with_reducible refine zst (L:=[44,41,31,100]) ?_ ?_); exact rfl)
  unfold Hid
  refine wpList_allocB rfl 100 #[.slice none 0 0,I 0,.bool false,I 0,.slice none 0 0,.slice none 0 0] (by kernel_rfl) (fun b1 w2_ M2=>?_)
  have D_b0_b1:=zld B_b0 M2
  replace B_b0:=zmo M2 B_b0
  have B_b1:=zmb M2
  replace HC:=zme M2 HC
  replace HB:=zme M2 HB
  replace HG:=zme M2 HG
  replace HF:=zme M2 HF
  replace EW:=zet EW M2
  have A_b0 : Hid (b0 = w.heap.size + 0):=by unfold Hid; have q0:=M1.out.at_; have r0:=M1.out.size; omega
  have N_b0:=znb HK A_b0 (by decide)
  have O_b0:=zob A_b0
  have A_b1 : Hid (b1 = w.heap.size + 1):=by unfold Hid; have q0:=M1.out.at_; have r0:=M1.out.size; have q1:=M2.out.at_; have r1:=M2.out.size; omega
  have N_b1:=znb HK A_b1 (by decide)
  have O_b1:=zob A_b1
  have c4:=cell_of (i:=4) B_b0.out rfl
  have cx:=HF.out.out.1
  go_wp2_with fail
  clear c4 cx
  have hl:=refReadAnswer_any bv b w2_ HF.out.out.2
  rw [HRA.out] at hl
  refine Calls.exts hl (fun wa ea=>?_)
  clear hl
  replace B_b0:=zbx B_b0 ea
  replace B_b1:=zbx B_b1 ea
  replace HC:=zrx HC ea
  replace HB:=zrx HB ea
  replace HG:=zrx HG ea
  replace HF:=zrx HF ea
  replace EW:=Lib.hid (EW.out.trans ea)
  go_wp2_with ((with_reducible refine zst (L:=[44,41,31,100]) ?_ ?_); exact rfl)
  unfold Hid
  refine wpList_allocB rfl 59 #[I 0,I 0,I 0,I 0] (by kernel_rfl) (fun b2 w3_ M3=>?_)
  have D_b0_b2:=zld B_b0 M3
  have D_b1_b2:=zld B_b1 M3
  obtain ⟨B1,HB1⟩ : ∃ X : Nat → Prop,Hid (∀ k,X k ↔ (B k ∧ k ≠ b2)):=⟨_,fun _=>Iff.rfl⟩
  replace HC:=zmd HB1 M3 HC
  replace HB:=zmd HB1 M3 HB
  replace HG:=zmd HB1 M3 HG
  replace HF:=zmd HB1 M3 HF
  replace N_b0:=znw HB1 N_b0
  replace N_b1:=znw HB1 N_b1
  have N_b2 : Hid (¬ B1 b2):=fun h=>((HB1.out _).1 h).2 rfl
  have I_B1 : Hid (∀ k,B1 k → B k):=fun k h=>((HB1.out k).1 h).1
  have O_b2 : Hid (w.heap.size ≤ b2):=by unfold Hid; have q2:=M3.out.at_; have q3:=EW.out.size; omega
  replace B_b0:=zmo M3 B_b0
  replace B_b1:=zmo M3 B_b1
  have B_b2:=zmb M3
  replace HC:=zme M3 HC
  replace HB:=zme M3 HB
  replace HG:=zme M3 HG
  replace HF:=zme M3 HF
  replace EW:=zet EW M3
  go_wp2_with ((with_reducible refine zst (L:=[44,41,31,100]) ?_ ?_); exact rfl)
  unfold Hid
  refine wpList_storeW rfl 59 (.tmp 11) (.tmp 23) rfl b2 rfl [I ac,I at2,I re,I rn] (rfl) B_b2 rfl (by kernel_rfl) rfl (fun w4_ M4=>?_)
  replace B_b0:=zwl M4 B_b0 D_b0_b2
  replace B_b1:=zwl M4 B_b1 D_b1_b2
  replace B_b2:=zwb M4
  replace HC:=zwr M4 HC N_b2
  replace HB:=zwr M4 HB N_b2
  replace HG:=zwr M4 HG N_b2
  replace HF:=zwr M4 HF N_b2
  replace EW:=zwe M4 EW O_b2
  have c4:=cell_of (i:=4) B_b0.out rfl
  go_wp2_with ((with_reducible refine zst (L:=[44,41,31,100]) ?_ ?_); exact rfl)
  unfold Hid
  clear c4
  refine wpList_storeP rfl 32 (.tmp 28) (.tmp 27) rfl b0 4 rfl [.slice (some ⟨xb,xo + 1,none⟩) l.length (xc - 1)] (rfl) B_b0 rfl (by kernel_rfl) rfl [.slice ca cl.length cc,I at_,.bool sent,I gen,.slice (some ⟨xb,xo + 1,none⟩) l.length (xc - 1),.slice ga gl.length gc] rfl (fun w5_ M5=>?_)
  replace B_b0:=zwb M5
  replace B_b1:=zwg M5 B_b1 D_b0_b1
  replace B_b2:=zwg M5 B_b2 D_b0_b2
  replace HC:=zwr M5 HC N_b0
  replace HB:=zwr M5 HB N_b0
  replace HG:=zwr M5 HG N_b0
  replace HF:=zwr M5 HF N_b0
  replace EW:=zwe M5 EW O_b0
  have d0:=cell_of (i:=0) B_b2.out rfl
  have d1:=cell_of (i:=1) B_b2.out rfl
  have c1:=cell_of (i:=1) B_b0.out rfl
  have c2:=cell_of (i:=2) B_b0.out rfl
  go_wp2_with ((with_reducible refine zst (L:=[44,41,31,100]) ?_ ?_); exact rfl)
  unfold Hid
  clear d0 d1 c1 c2
  refine wpList_loadW rfl 100 (.tmp 4) rfl b0 rfl B_b0 Tryz.underlying100 (by kernel_rfl) (fun v62 H_v62=>?_)
  go_wp2_with ((with_reducible refine zst (L:=[44,41,31,100]) ?_ ?_); exact rfl)
  unfold Hid
  refine wpList_storeW rfl 100 (.tmp 8) (.tmp 62) rfl b1 rfl _ (zcv H_v62) B_b1 rfl (by kernel_rfl) rfl (fun w6_ M6=>?_)
  replace B_b0:=zwl M6 B_b0 D_b0_b1
  replace B_b1:=zwb M6
  replace B_b2:=zwg M6 B_b2 D_b1_b2
  replace HC:=zwr M6 HC N_b1
  replace HB:=zwr M6 HB N_b1
  replace HG:=zwr M6 HG N_b1
  replace HF:=zwr M6 HF N_b1
  replace EW:=zwe M6 EW O_b1
  go_wp2
  have z0:=run_box (P:=Tryz.prog) 100 B_b1.out Tryz.underlying100 (by kernel_rfl)
  refine bodyPost_ret (by simp [results,Tryz.results45,asAddr,z0]; rfl) rfl ?_
  exact ⟨_,rfl,EW.out,Rd.widen (A:=B1) (tup3_rd (cn_rd (c:=⟨cl,at_,sent,gen,l,gl⟩) HC.out HB.out HG.out) (Rd.all fun w=>bytes_nil w)) (fun k _ h=>HK.out.2.2.2 k (I_B1.out k h))⟩
 subst a1
 by_cases a2 : ac = me
 case neg =>
  rw [hX0,if_neg (fun h=>a2 h.2.1)]
  have hb_a2 : (ac == me) = false:=by simpa using a2
  clear hX0
  go_enter Tryz.func45,Tryz.ntmps45
  go_wp2_with ((with_reducible refine zst (L:=[44,41,31,100]) ?_ ?_); exact rfl)
  unfold Hid
  refine wpList_boxB rfl 100 (.tmp 0) rfl #[.slice ca cl.length cc,I at_,.bool sent,I gen,.slice (some ⟨xb,xo,none⟩) (l.length + 1) xc,.slice ga gl.length gc] rfl (fun b0 w1_ M1=>?_)
  have B_b0:=zmb M1
  replace HC:=zme M1 HC
  replace HB:=zme M1 HB
  replace HG:=zme M1 HG
  replace HF:=zme M1 HF
  replace EW:=zet EW M1
  go_wp2_with ((with_reducible refine zst (L:=[44,41,31,100]) ?_ ?_); exact rfl)
  unfold Hid
  refine wpList_allocB rfl 100 #[.slice none 0 0,I 0,.bool false,I 0,.slice none 0 0,.slice none 0 0] (by kernel_rfl) (fun b1 w2_ M2=>?_)
  have D_b0_b1:=zld B_b0 M2
  replace B_b0:=zmo M2 B_b0
  have B_b1:=zmb M2
  replace HC:=zme M2 HC
  replace HB:=zme M2 HB
  replace HG:=zme M2 HG
  replace HF:=zme M2 HF
  replace EW:=zet EW M2
  have A_b0 : Hid (b0 = w.heap.size + 0):=by unfold Hid; have q0:=M1.out.at_; have r0:=M1.out.size; omega
  have N_b0:=znb HK A_b0 (by decide)
  have O_b0:=zob A_b0
  have A_b1 : Hid (b1 = w.heap.size + 1):=by unfold Hid; have q0:=M1.out.at_; have r0:=M1.out.size; have q1:=M2.out.at_; have r1:=M2.out.size; omega
  have N_b1:=znb HK A_b1 (by decide)
  have O_b1:=zob A_b1
  have c4:=cell_of (i:=4) B_b0.out rfl
  have cx:=HF.out.out.1
  go_wp2_with fail
  clear c4 cx
  have hl:=refReadAnswer_any bv b w2_ HF.out.out.2
  rw [HRA.out] at hl
  refine Calls.exts hl (fun wa ea=>?_)
  clear hl
  replace B_b0:=zbx B_b0 ea
  replace B_b1:=zbx B_b1 ea
  replace HC:=zrx HC ea
  replace HB:=zrx HB ea
  replace HG:=zrx HG ea
  replace HF:=zrx HF ea
  replace EW:=Lib.hid (EW.out.trans ea)
  go_wp2_with ((with_reducible refine zst (L:=[44,41,31,100]) ?_ ?_); exact rfl)
  unfold Hid
  refine wpList_allocB rfl 59 #[I 0,I 0,I 0,I 0] (by kernel_rfl) (fun b2 w3_ M3=>?_)
  have D_b0_b2:=zld B_b0 M3
  have D_b1_b2:=zld B_b1 M3
  obtain ⟨B1,HB1⟩ : ∃ X : Nat → Prop,Hid (∀ k,X k ↔ (B k ∧ k ≠ b2)):=⟨_,fun _=>Iff.rfl⟩
  replace HC:=zmd HB1 M3 HC
  replace HB:=zmd HB1 M3 HB
  replace HG:=zmd HB1 M3 HG
  replace HF:=zmd HB1 M3 HF
  replace N_b0:=znw HB1 N_b0
  replace N_b1:=znw HB1 N_b1
  have N_b2 : Hid (¬ B1 b2):=fun h=>((HB1.out _).1 h).2 rfl
  have I_B1 : Hid (∀ k,B1 k → B k):=fun k h=>((HB1.out k).1 h).1
  have O_b2 : Hid (w.heap.size ≤ b2):=by unfold Hid; have q2:=M3.out.at_; have q3:=EW.out.size; omega
  replace B_b0:=zmo M3 B_b0
  replace B_b1:=zmo M3 B_b1
  have B_b2:=zmb M3
  replace HC:=zme M3 HC
  replace HB:=zme M3 HB
  replace HG:=zme M3 HG
  replace HF:=zme M3 HF
  replace EW:=zet EW M3
  go_wp2_with ((with_reducible refine zst (L:=[44,41,31,100]) ?_ ?_); exact rfl)
  unfold Hid
  refine wpList_storeW rfl 59 (.tmp 11) (.tmp 23) rfl b2 rfl [I ac,I at2,I re,I rn] (rfl) B_b2 rfl (by kernel_rfl) rfl (fun w4_ M4=>?_)
  replace B_b0:=zwl M4 B_b0 D_b0_b2
  replace B_b1:=zwl M4 B_b1 D_b1_b2
  replace B_b2:=zwb M4
  replace HC:=zwr M4 HC N_b2
  replace HB:=zwr M4 HB N_b2
  replace HG:=zwr M4 HG N_b2
  replace HF:=zwr M4 HF N_b2
  replace EW:=zwe M4 EW O_b2
  have c4:=cell_of (i:=4) B_b0.out rfl
  go_wp2_with ((with_reducible refine zst (L:=[44,41,31,100]) ?_ ?_); exact rfl)
  unfold Hid
  clear c4
  refine wpList_storeP rfl 32 (.tmp 28) (.tmp 27) rfl b0 4 rfl [.slice (some ⟨xb,xo + 1,none⟩) l.length (xc - 1)] (rfl) B_b0 rfl (by kernel_rfl) rfl [.slice ca cl.length cc,I at_,.bool sent,I gen,.slice (some ⟨xb,xo + 1,none⟩) l.length (xc - 1),.slice ga gl.length gc] rfl (fun w5_ M5=>?_)
  replace B_b0:=zwb M5
  replace B_b1:=zwg M5 B_b1 D_b0_b1
  replace B_b2:=zwg M5 B_b2 D_b0_b2
  replace HC:=zwr M5 HC N_b0
  replace HB:=zwr M5 HB N_b0
  replace HG:=zwr M5 HG N_b0
  replace HF:=zwr M5 HF N_b0
  replace EW:=zwe M5 EW O_b0
  have d0:=cell_of (i:=0) B_b2.out rfl
  have d1:=cell_of (i:=1) B_b2.out rfl
  have c1:=cell_of (i:=1) B_b0.out rfl
  have c2:=cell_of (i:=2) B_b0.out rfl
  go_wp2_with ((with_reducible refine zst (L:=[44,41,31,100]) ?_ ?_); exact rfl)
  unfold Hid
  clear d0 d1 c1 c2
  refine wpList_loadW rfl 100 (.tmp 4) rfl b0 rfl B_b0 Tryz.underlying100 (by kernel_rfl) (fun v62 H_v62=>?_)
  go_wp2_with ((with_reducible refine zst (L:=[44,41,31,100]) ?_ ?_); exact rfl)
  unfold Hid
  refine wpList_storeW rfl 100 (.tmp 8) (.tmp 62) rfl b1 rfl _ (zcv H_v62) B_b1 rfl (by kernel_rfl) rfl (fun w6_ M6=>?_)
  replace B_b0:=zwl M6 B_b0 D_b0_b1
  replace B_b1:=zwb M6
  replace B_b2:=zwg M6 B_b2 D_b1_b2
  replace HC:=zwr M6 HC N_b1
  replace HB:=zwr M6 HB N_b1
  replace HG:=zwr M6 HG N_b1
  replace HF:=zwr M6 HF N_b1
  replace EW:=zwe M6 EW O_b1
  go_wp2
  have z0:=run_box (P:=Tryz.prog) 100 B_b1.out Tryz.underlying100 (by kernel_rfl)
  refine bodyPost_ret (by simp [results,Tryz.results45,asAddr,z0]; rfl) rfl ?_
  exact ⟨_,rfl,EW.out,Rd.widen (A:=B1) (tup3_rd (cn_rd (c:=⟨cl,at_,sent,gen,l,gl⟩) HC.out HB.out HG.out) (Rd.all fun w=>bytes_nil w)) (fun k _ h=>HK.out.2.2.2 k (I_B1.out k h))⟩
 subst a2
 by_cases a3 : at2 = at_
 case neg =>
  rw [hX0,if_neg (fun h=>a3 h.2.2.1)]
  have hb_a3 : (at2 == at_) = false:=by simpa using a3
  clear hX0
  go_enter Tryz.func45,Tryz.ntmps45
  go_wp2_with ((with_reducible refine zst (L:=[44,41,31,100]) ?_ ?_); exact rfl)
  unfold Hid
  refine wpList_boxB rfl 100 (.tmp 0) rfl #[.slice ca cl.length cc,I at_,.bool sent,I gen,.slice (some ⟨xb,xo,none⟩) (l.length + 1) xc,.slice ga gl.length gc] rfl (fun b0 w1_ M1=>?_)
  have B_b0:=zmb M1
  replace HC:=zme M1 HC
  replace HB:=zme M1 HB
  replace HG:=zme M1 HG
  replace HF:=zme M1 HF
  replace EW:=zet EW M1
  go_wp2_with ((with_reducible refine zst (L:=[44,41,31,100]) ?_ ?_); exact rfl)
  unfold Hid
  refine wpList_allocB rfl 100 #[.slice none 0 0,I 0,.bool false,I 0,.slice none 0 0,.slice none 0 0] (by kernel_rfl) (fun b1 w2_ M2=>?_)
  have D_b0_b1:=zld B_b0 M2
  replace B_b0:=zmo M2 B_b0
  have B_b1:=zmb M2
  replace HC:=zme M2 HC
  replace HB:=zme M2 HB
  replace HG:=zme M2 HG
  replace HF:=zme M2 HF
  replace EW:=zet EW M2
  have A_b0 : Hid (b0 = w.heap.size + 0):=by unfold Hid; have q0:=M1.out.at_; have r0:=M1.out.size; omega
  have N_b0:=znb HK A_b0 (by decide)
  have O_b0:=zob A_b0
  have A_b1 : Hid (b1 = w.heap.size + 1):=by unfold Hid; have q0:=M1.out.at_; have r0:=M1.out.size; have q1:=M2.out.at_; have r1:=M2.out.size; omega
  have N_b1:=znb HK A_b1 (by decide)
  have O_b1:=zob A_b1
  have c4:=cell_of (i:=4) B_b0.out rfl
  have cx:=HF.out.out.1
  go_wp2_with fail
  clear c4 cx
  have hl:=refReadAnswer_any bv b w2_ HF.out.out.2
  rw [HRA.out] at hl
  refine Calls.exts hl (fun wa ea=>?_)
  clear hl
  replace B_b0:=zbx B_b0 ea
  replace B_b1:=zbx B_b1 ea
  replace HC:=zrx HC ea
  replace HB:=zrx HB ea
  replace HG:=zrx HG ea
  replace HF:=zrx HF ea
  replace EW:=Lib.hid (EW.out.trans ea)
  go_wp2_with ((with_reducible refine zst (L:=[44,41,31,100]) ?_ ?_); exact rfl)
  unfold Hid
  refine wpList_allocB rfl 59 #[I 0,I 0,I 0,I 0] (by kernel_rfl) (fun b2 w3_ M3=>?_)
  have D_b0_b2:=zld B_b0 M3
  have D_b1_b2:=zld B_b1 M3
  obtain ⟨B1,HB1⟩ : ∃ X : Nat → Prop,Hid (∀ k,X k ↔ (B k ∧ k ≠ b2)):=⟨_,fun _=>Iff.rfl⟩
  replace HC:=zmd HB1 M3 HC
  replace HB:=zmd HB1 M3 HB
  replace HG:=zmd HB1 M3 HG
  replace HF:=zmd HB1 M3 HF
  replace N_b0:=znw HB1 N_b0
  replace N_b1:=znw HB1 N_b1
  have N_b2 : Hid (¬ B1 b2):=fun h=>((HB1.out _).1 h).2 rfl
  have I_B1 : Hid (∀ k,B1 k → B k):=fun k h=>((HB1.out k).1 h).1
  have O_b2 : Hid (w.heap.size ≤ b2):=by unfold Hid; have q2:=M3.out.at_; have q3:=EW.out.size; omega
  replace B_b0:=zmo M3 B_b0
  replace B_b1:=zmo M3 B_b1
  have B_b2:=zmb M3
  replace HC:=zme M3 HC
  replace HB:=zme M3 HB
  replace HG:=zme M3 HG
  replace HF:=zme M3 HF
  replace EW:=zet EW M3
  go_wp2_with ((with_reducible refine zst (L:=[44,41,31,100]) ?_ ?_); exact rfl)
  unfold Hid
  refine wpList_storeW rfl 59 (.tmp 11) (.tmp 23) rfl b2 rfl [I ac,I at2,I re,I rn] (rfl) B_b2 rfl (by kernel_rfl) rfl (fun w4_ M4=>?_)
  replace B_b0:=zwl M4 B_b0 D_b0_b2
  replace B_b1:=zwl M4 B_b1 D_b1_b2
  replace B_b2:=zwb M4
  replace HC:=zwr M4 HC N_b2
  replace HB:=zwr M4 HB N_b2
  replace HG:=zwr M4 HG N_b2
  replace HF:=zwr M4 HF N_b2
  replace EW:=zwe M4 EW O_b2
  have c4:=cell_of (i:=4) B_b0.out rfl
  go_wp2_with ((with_reducible refine zst (L:=[44,41,31,100]) ?_ ?_); exact rfl)
  unfold Hid
  clear c4
  refine wpList_storeP rfl 32 (.tmp 28) (.tmp 27) rfl b0 4 rfl [.slice (some ⟨xb,xo + 1,none⟩) l.length (xc - 1)] (rfl) B_b0 rfl (by kernel_rfl) rfl [.slice ca cl.length cc,I at_,.bool sent,I gen,.slice (some ⟨xb,xo + 1,none⟩) l.length (xc - 1),.slice ga gl.length gc] rfl (fun w5_ M5=>?_)
  replace B_b0:=zwb M5
  replace B_b1:=zwg M5 B_b1 D_b0_b1
  replace B_b2:=zwg M5 B_b2 D_b0_b2
  replace HC:=zwr M5 HC N_b0
  replace HB:=zwr M5 HB N_b0
  replace HG:=zwr M5 HG N_b0
  replace HF:=zwr M5 HF N_b0
  replace EW:=zwe M5 EW O_b0
  have d0:=cell_of (i:=0) B_b2.out rfl
  have d1:=cell_of (i:=1) B_b2.out rfl
  have c1:=cell_of (i:=1) B_b0.out rfl
  have c2:=cell_of (i:=2) B_b0.out rfl
  go_wp2_with ((with_reducible refine zst (L:=[44,41,31,100]) ?_ ?_); exact rfl)
  unfold Hid
  clear d0 d1 c1 c2
  refine wpList_loadW rfl 100 (.tmp 4) rfl b0 rfl B_b0 Tryz.underlying100 (by kernel_rfl) (fun v62 H_v62=>?_)
  go_wp2_with ((with_reducible refine zst (L:=[44,41,31,100]) ?_ ?_); exact rfl)
  unfold Hid
  refine wpList_storeW rfl 100 (.tmp 8) (.tmp 62) rfl b1 rfl _ (zcv H_v62) B_b1 rfl (by kernel_rfl) rfl (fun w6_ M6=>?_)
  replace B_b0:=zwl M6 B_b0 D_b0_b1
  replace B_b1:=zwb M6
  replace B_b2:=zwg M6 B_b2 D_b1_b2
  replace HC:=zwr M6 HC N_b1
  replace HB:=zwr M6 HB N_b1
  replace HG:=zwr M6 HG N_b1
  replace HF:=zwr M6 HF N_b1
  replace EW:=zwe M6 EW O_b1
  go_wp2
  have z0:=run_box (P:=Tryz.prog) 100 B_b1.out Tryz.underlying100 (by kernel_rfl)
  refine bodyPost_ret (by simp [results,Tryz.results45,asAddr,z0]; rfl) rfl ?_
  exact ⟨_,rfl,EW.out,Rd.widen (A:=B1) (tup3_rd (cn_rd (c:=⟨cl,at_,sent,gen,l,gl⟩) HC.out HB.out HG.out) (Rd.all fun w=>bytes_nil w)) (fun k _ h=>HK.out.2.2.2 k (I_B1.out k h))⟩
 replace a3:=a3.symm
 subst a3
 cases sent
 case false =>
  rw [hX0,if_neg (fun h=>by cases h.2.2.2)]
  clear hX0
  go_enter Tryz.func45,Tryz.ntmps45
  go_wp2_with ((with_reducible refine zst (L:=[44,41,31,100]) ?_ ?_); exact rfl)
  unfold Hid
  refine wpList_boxB rfl 100 (.tmp 0) rfl #[.slice ca cl.length cc,I at_,.bool false,I gen,.slice (some ⟨xb,xo,none⟩) (l.length + 1) xc,.slice ga gl.length gc] rfl (fun b0 w1_ M1=>?_)
  have B_b0:=zmb M1
  replace HC:=zme M1 HC
  replace HB:=zme M1 HB
  replace HG:=zme M1 HG
  replace HF:=zme M1 HF
  replace EW:=zet EW M1
  go_wp2_with ((with_reducible refine zst (L:=[44,41,31,100]) ?_ ?_); exact rfl)
  unfold Hid
  refine wpList_allocB rfl 100 #[.slice none 0 0,I 0,.bool false,I 0,.slice none 0 0,.slice none 0 0] (by kernel_rfl) (fun b1 w2_ M2=>?_)
  have D_b0_b1:=zld B_b0 M2
  replace B_b0:=zmo M2 B_b0
  have B_b1:=zmb M2
  replace HC:=zme M2 HC
  replace HB:=zme M2 HB
  replace HG:=zme M2 HG
  replace HF:=zme M2 HF
  replace EW:=zet EW M2
  have A_b0 : Hid (b0 = w.heap.size + 0):=by unfold Hid; have q0:=M1.out.at_; have r0:=M1.out.size; omega
  have N_b0:=znb HK A_b0 (by decide)
  have O_b0:=zob A_b0
  have A_b1 : Hid (b1 = w.heap.size + 1):=by unfold Hid; have q0:=M1.out.at_; have r0:=M1.out.size; have q1:=M2.out.at_; have r1:=M2.out.size; omega
  have N_b1:=znb HK A_b1 (by decide)
  have O_b1:=zob A_b1
  have c4:=cell_of (i:=4) B_b0.out rfl
  have cx:=HF.out.out.1
  go_wp2_with fail
  clear c4 cx
  have hl:=refReadAnswer_any bv b w2_ HF.out.out.2
  rw [HRA.out] at hl
  refine Calls.exts hl (fun wa ea=>?_)
  clear hl
  replace B_b0:=zbx B_b0 ea
  replace B_b1:=zbx B_b1 ea
  replace HC:=zrx HC ea
  replace HB:=zrx HB ea
  replace HG:=zrx HG ea
  replace HF:=zrx HF ea
  replace EW:=Lib.hid (EW.out.trans ea)
  go_wp2_with ((with_reducible refine zst (L:=[44,41,31,100]) ?_ ?_); exact rfl)
  unfold Hid
  refine wpList_allocB rfl 59 #[I 0,I 0,I 0,I 0] (by kernel_rfl) (fun b2 w3_ M3=>?_)
  have D_b0_b2:=zld B_b0 M3
  have D_b1_b2:=zld B_b1 M3
  obtain ⟨B1,HB1⟩ : ∃ X : Nat → Prop,Hid (∀ k,X k ↔ (B k ∧ k ≠ b2)):=⟨_,fun _=>Iff.rfl⟩
  replace HC:=zmd HB1 M3 HC
  replace HB:=zmd HB1 M3 HB
  replace HG:=zmd HB1 M3 HG
  replace HF:=zmd HB1 M3 HF
  replace N_b0:=znw HB1 N_b0
  replace N_b1:=znw HB1 N_b1
  have N_b2 : Hid (¬ B1 b2):=fun h=>((HB1.out _).1 h).2 rfl
  have I_B1 : Hid (∀ k,B1 k → B k):=fun k h=>((HB1.out k).1 h).1
  have O_b2 : Hid (w.heap.size ≤ b2):=by unfold Hid; have q2:=M3.out.at_; have q3:=EW.out.size; omega
  replace B_b0:=zmo M3 B_b0
  replace B_b1:=zmo M3 B_b1
  have B_b2:=zmb M3
  replace HC:=zme M3 HC
  replace HB:=zme M3 HB
  replace HG:=zme M3 HG
  replace HF:=zme M3 HF
  replace EW:=zet EW M3
  go_wp2_with ((with_reducible refine zst (L:=[44,41,31,100]) ?_ ?_); exact rfl)
  unfold Hid
  refine wpList_storeW rfl 59 (.tmp 11) (.tmp 23) rfl b2 rfl [I ac,I at_,I re,I rn] (rfl) B_b2 rfl (by kernel_rfl) rfl (fun w4_ M4=>?_)
  replace B_b0:=zwl M4 B_b0 D_b0_b2
  replace B_b1:=zwl M4 B_b1 D_b1_b2
  replace B_b2:=zwb M4
  replace HC:=zwr M4 HC N_b2
  replace HB:=zwr M4 HB N_b2
  replace HG:=zwr M4 HG N_b2
  replace HF:=zwr M4 HF N_b2
  replace EW:=zwe M4 EW O_b2
  have c4:=cell_of (i:=4) B_b0.out rfl
  go_wp2_with ((with_reducible refine zst (L:=[44,41,31,100]) ?_ ?_); exact rfl)
  unfold Hid
  clear c4
  refine wpList_storeP rfl 32 (.tmp 28) (.tmp 27) rfl b0 4 rfl [.slice (some ⟨xb,xo + 1,none⟩) l.length (xc - 1)] (rfl) B_b0 rfl (by kernel_rfl) rfl [.slice ca cl.length cc,I at_,.bool false,I gen,.slice (some ⟨xb,xo + 1,none⟩) l.length (xc - 1),.slice ga gl.length gc] rfl (fun w5_ M5=>?_)
  replace B_b0:=zwb M5
  replace B_b1:=zwg M5 B_b1 D_b0_b1
  replace B_b2:=zwg M5 B_b2 D_b0_b2
  replace HC:=zwr M5 HC N_b0
  replace HB:=zwr M5 HB N_b0
  replace HG:=zwr M5 HG N_b0
  replace HF:=zwr M5 HF N_b0
  replace EW:=zwe M5 EW O_b0
  have d0:=cell_of (i:=0) B_b2.out rfl
  have d1:=cell_of (i:=1) B_b2.out rfl
  have c1:=cell_of (i:=1) B_b0.out rfl
  have c2:=cell_of (i:=2) B_b0.out rfl
  go_wp2_with ((with_reducible refine zst (L:=[44,41,31,100]) ?_ ?_); exact rfl)
  unfold Hid
  clear d0 d1 c1 c2
  refine wpList_loadW rfl 100 (.tmp 4) rfl b0 rfl B_b0 Tryz.underlying100 (by kernel_rfl) (fun v62 H_v62=>?_)
  go_wp2_with ((with_reducible refine zst (L:=[44,41,31,100]) ?_ ?_); exact rfl)
  unfold Hid
  refine wpList_storeW rfl 100 (.tmp 8) (.tmp 62) rfl b1 rfl _ (zcv H_v62) B_b1 rfl (by kernel_rfl) rfl (fun w6_ M6=>?_)
  replace B_b0:=zwl M6 B_b0 D_b0_b1
  replace B_b1:=zwb M6
  replace B_b2:=zwg M6 B_b2 D_b1_b2
  replace HC:=zwr M6 HC N_b1
  replace HB:=zwr M6 HB N_b1
  replace HG:=zwr M6 HG N_b1
  replace HF:=zwr M6 HF N_b1
  replace EW:=zwe M6 EW O_b1
  go_wp2
  have z0:=run_box (P:=Tryz.prog) 100 B_b1.out Tryz.underlying100 (by kernel_rfl)
  refine bodyPost_ret (by simp [results,Tryz.results45,asAddr,z0]; rfl) rfl ?_
  exact ⟨_,rfl,EW.out,Rd.widen (A:=B1) (tup3_rd (cn_rd (c:=⟨cl,at_,false,gen,l,gl⟩) HC.out HB.out HG.out) (Rd.all fun w=>bytes_nil w)) (fun k _ h=>HK.out.2.2.2 k (I_B1.out k h))⟩
 rw [hX0,if_pos ⟨rfl,rfl,rfl,rfl⟩]
 clear hX0
 go_enter Tryz.func45,Tryz.ntmps45
 go_wp2_with ((with_reducible refine zst (L:=[44,41,31,100]) ?_ ?_); exact rfl)
 unfold Hid
 refine wpList_boxB rfl 100 (.tmp 0) rfl #[.slice ca cl.length cc,I at_,.bool true,I gen,.slice (some ⟨xb,xo,none⟩) (l.length + 1) xc,.slice ga gl.length gc] rfl (fun b0 w1_ M1=>?_)
 have B_b0:=zmb M1
 replace HC:=zme M1 HC
 replace HB:=zme M1 HB
 replace HG:=zme M1 HG
 replace HF:=zme M1 HF
 replace EW:=zet EW M1
 go_wp2_with ((with_reducible refine zst (L:=[44,41,31,100]) ?_ ?_); exact rfl)
 unfold Hid
 refine wpList_allocB rfl 100 #[.slice none 0 0,I 0,.bool false,I 0,.slice none 0 0,.slice none 0 0] (by kernel_rfl) (fun b1 w2_ M2=>?_)
 have D_b0_b1:=zld B_b0 M2
 replace B_b0:=zmo M2 B_b0
 have B_b1:=zmb M2
 replace HC:=zme M2 HC
 replace HB:=zme M2 HB
 replace HG:=zme M2 HG
 replace HF:=zme M2 HF
 replace EW:=zet EW M2
 have A_b0 : Hid (b0 = w.heap.size + 0):=by unfold Hid; have q0:=M1.out.at_; have r0:=M1.out.size; omega
 have N_b0:=znb HK A_b0 (by decide)
 have O_b0:=zob A_b0
 have A_b1 : Hid (b1 = w.heap.size + 1):=by unfold Hid; have q0:=M1.out.at_; have r0:=M1.out.size; have q1:=M2.out.at_; have r1:=M2.out.size; omega
 have N_b1:=znb HK A_b1 (by decide)
 have O_b1:=zob A_b1
 have c4:=cell_of (i:=4) B_b0.out rfl
 have cx:=HF.out.out.1
 go_wp2_with fail
 clear c4 cx
 have hl:=refReadAnswer_any bv b w2_ HF.out.out.2
 rw [HRA.out] at hl
 refine Calls.exts hl (fun wa ea=>?_)
 clear hl
 replace B_b0:=zbx B_b0 ea
 replace B_b1:=zbx B_b1 ea
 replace HC:=zrx HC ea
 replace HB:=zrx HB ea
 replace HG:=zrx HG ea
 replace HF:=zrx HF ea
 replace EW:=Lib.hid (EW.out.trans ea)
 go_wp2_with ((with_reducible refine zst (L:=[44,41,31,100]) ?_ ?_); exact rfl)
 unfold Hid
 refine wpList_allocB rfl 59 #[I 0,I 0,I 0,I 0] (by kernel_rfl) (fun b2 w3_ M3=>?_)
 have D_b0_b2:=zld B_b0 M3
 have D_b1_b2:=zld B_b1 M3
 obtain ⟨B1,HB1⟩ : ∃ X : Nat → Prop,Hid (∀ k,X k ↔ (B k ∧ k ≠ b2)):=⟨_,fun _=>Iff.rfl⟩
 replace HC:=zmd HB1 M3 HC
 replace HB:=zmd HB1 M3 HB
 replace HG:=zmd HB1 M3 HG
 replace HF:=zmd HB1 M3 HF
 replace N_b0:=znw HB1 N_b0
 replace N_b1:=znw HB1 N_b1
 have N_b2 : Hid (¬ B1 b2):=fun h=>((HB1.out _).1 h).2 rfl
 have I_B1 : Hid (∀ k,B1 k → B k):=fun k h=>((HB1.out k).1 h).1
 have O_b2 : Hid (w.heap.size ≤ b2):=by unfold Hid; have q2:=M3.out.at_; have q3:=EW.out.size; omega
 replace B_b0:=zmo M3 B_b0
 replace B_b1:=zmo M3 B_b1
 have B_b2:=zmb M3
 replace HC:=zme M3 HC
 replace HB:=zme M3 HB
 replace HG:=zme M3 HG
 replace HF:=zme M3 HF
 replace EW:=zet EW M3
 go_wp2_with ((with_reducible refine zst (L:=[44,41,31,100]) ?_ ?_); exact rfl)
 unfold Hid
 refine wpList_storeW rfl 59 (.tmp 11) (.tmp 23) rfl b2 rfl [I ac,I at_,I re,I rn] (rfl) B_b2 rfl (by kernel_rfl) rfl (fun w4_ M4=>?_)
 replace B_b0:=zwl M4 B_b0 D_b0_b2
 replace B_b1:=zwl M4 B_b1 D_b1_b2
 replace B_b2:=zwb M4
 replace HC:=zwr M4 HC N_b2
 replace HB:=zwr M4 HB N_b2
 replace HG:=zwr M4 HG N_b2
 replace HF:=zwr M4 HF N_b2
 replace EW:=zwe M4 EW O_b2
 have c4:=cell_of (i:=4) B_b0.out rfl
 go_wp2_with ((with_reducible refine zst (L:=[44,41,31,100]) ?_ ?_); exact rfl)
 unfold Hid
 clear c4
 refine wpList_storeP rfl 32 (.tmp 28) (.tmp 27) rfl b0 4 rfl [.slice (some ⟨xb,xo + 1,none⟩) l.length (xc - 1)] (rfl) B_b0 rfl (by kernel_rfl) rfl [.slice ca cl.length cc,I at_,.bool true,I gen,.slice (some ⟨xb,xo + 1,none⟩) l.length (xc - 1),.slice ga gl.length gc] rfl (fun w5_ M5=>?_)
 replace B_b0:=zwb M5
 replace B_b1:=zwg M5 B_b1 D_b0_b1
 replace B_b2:=zwg M5 B_b2 D_b0_b2
 replace HC:=zwr M5 HC N_b0
 replace HB:=zwr M5 HB N_b0
 replace HG:=zwr M5 HG N_b0
 replace HF:=zwr M5 HF N_b0
 replace EW:=zwe M5 EW O_b0
 have d0:=cell_of (i:=0) B_b2.out rfl
 have d1:=cell_of (i:=1) B_b2.out rfl
 have c1:=cell_of (i:=1) B_b0.out rfl
 have c2:=cell_of (i:=2) B_b0.out rfl
 go_wp2_with fail
 clear d0 d1 c1 c2
 have hbx:=B_b0.out
 have hby:=B_b2.out
 have x5:=cell_of (i:=5) hbx rfl
 have y2:=cell_of (i:=2) hby rfl
 have y3:=cell_of (i:=3) hby rfl
 obtain ⟨i0,hi,hz0,hz1,hz2⟩:=info_parts Tryz.infoRp
 have HI:=Lib.hid hi
 clear hi
 refine wp_region_mono_weak 7 [some (.inr (FullOf w5_.heap.size 39 2 0 [])),none,none,some (.inr fun v wx=>wx.ownsRow w5_.heap.size 39 2 v (0 + gl.length) ([] ++ cellsR gl)),none,none,some (.inr fun v wx=>Row wx 2 v 1 (cellsR [⟨re,rn⟩]))] (fun v wx=>wx.ownsRow w5_.heap.size 39 2 v (0 + gl.length + 1) ([] ++ cellsR gl ++ cellsR [⟨re,rn⟩])) (by kernel_rfl) (by kernel_rfl) (by kernel_rfl) ?_ (fun v=>monoOwns _ _ _ _ _ v) ?_
 ·exact ⟨monoFull _ _ _ _ _,trivial,trivial,monoOwns _ _ _ _ _,trivial,trivial,fun _ _ _ he h=>Row.ext h he,trivial⟩
 refine wpM_l _ rfl (fun w' hw' hk=>?_) (fun v48=>?_)
 ·have hsz:=hw'.size
  clear hk
  unfold makes
  go_simp
  exact ⟨(Ext.refl _).alloc _,full_lit #[] 0 hsz (by decide) rfl⟩
 refine wpM_norm (fun K hK=>?_); go_simp; refine hK _ ?_; clear hK K
 iterate 1 (refine wpM_p (fun K hK=>?_); go_simp; first | refine hK _ ?_ | refine ⟨(fun h=>by cases h),hK _ ?_⟩; clear hK K)
 refine wpM_q (.slice ga gl.length gc) rfl (fun w' hw'=>by have q0:=hw'.cell x5; go_simp) ?_
 refine wpM_norm (fun K hK=>?_); go_simp; refine hK _ ?_; clear hK K
 refine wpM_l _ rfl (fun w' hw' hk=>?_) (fun v51=>?_)
 ·have h48 : FullOf w5_.heap.size 39 2 0 [] v48 w':=hk 48 (by decide)
  obtain ⟨vv,ww,hrun,hoo,hee⟩:=run_append_full (P:=Tryz.prog) w' w5_.heap.size 98 98 39 i0 _ 2 16 Tryz.underlying98 HI.out hz0 hz1 hz2 rfl (by decide) v48 0 _ h48 (.slice ga gl.length gc) gl.length _ ((rowOf_rps.1 HG.out.out).ext hw') (cellsR_one _) (by have:=HGL.out; omega) (by decide) hw'.size
  exact makes_append rfl rfl rfl hrun hee hoo
 refine wpM_norm (fun K hK=>?_); go_simp; refine hK _ ?_; clear hK K
 iterate 1 (refine wpM_p (fun K hK=>?_); go_simp; first | refine hK _ ?_ | refine ⟨(fun h=>by cases h),hK _ ?_⟩; clear hK K)
 refine wpM_q (.agg #[I re,I rn]) rfl (fun w' hw'=>by have q0:=hw'.cell y2; have q1:=hw'.cell y3; go_simp) ?_
 refine wpM_norm (fun K hK=>?_); go_simp; refine hK _ ?_; clear hK K
 refine wpM_l _ rfl (fun w' hw' hk=>?_) (fun v54=>?_)
 ·skip
  clear hk
  unfold makes
  go_simp
  exact ⟨(Ext.refl _).alloc _,Row.of_owns (World.ownsRow_lit (base:=0) (size:=2) w' _ 1 (Nat.zero_le _) (by decide) rfl)⟩
 refine wpM_norm (fun K hK=>?_); go_simp; refine hK _ ?_; clear hK K
 refine wpM_nil ⟨_,_,rfl,rfl,rfl,fun w' hw' hk=>?_,fun v55 w9 e9 ho9=>?_⟩
 ·have h51 : w'.ownsRow w5_.heap.size 39 2 v51 (0 + gl.length) ([] ++ cellsR gl):=hk 51 (by decide)
  have h54 : Row w' 2 v54 1 (cellsR [⟨re,rn⟩]):=hk 54 (by decide)
  obtain ⟨vv,ww,hrun,hoo,hgg⟩:=run_append_row (P:=Tryz.prog) w' w5_.heap.size 98 98 39 i0 _ 2 16 Tryz.underlying98 HI.out hz0 hz1 hz2 rfl (by decide) v51 _ _ h51 v54 1 _ h54 (cellsR_one _) (by have:=HGL.out; omega) (by decide) hw'.size
  exact ⟨vv,ww,run_append_op rfl rfl rfl hrun,hw'.grown hgg (fun j hj=>(h51.lt j hj).1),hoo⟩
 clear x5 y2 y3 hbx hby
 have hro : Rd (fun k=>w5_.heap.size ≤ k) (fun w=>RowOf 2 elRp w v55 (gl ++ [⟨re,rn⟩])) w9:=rd_rps (by simpa [cellsR_append] using ho9)
 obtain ⟨qa,qc,hqs⟩:=rowOf_slice hro.out
 rw [show (gl ++ [(⟨re,rn⟩ : Rp)]).length = gl.length + 1 by simp] at hqs
 subst hqs
 have hsz : w.heap.size + 2 ≤ w5_.heap.size:=by have q:=(Array.getElem?_eq_some_iff.1 B_b1.out).1; have q2:=A_b1.out; omega
 have hsz2 : b2 < w5_.heap.size:=(Array.getElem?_eq_some_iff.1 B_b2.out).1
 have HRO:=Lib.hid (hro.widen (B:=B1) (fun k _ h=>(HB1.out k).2 ⟨HK.out.2.1 k (by omega),by omega⟩))
 clear hro ho9 hsz hsz2
 replace B_b0:=zbx B_b0 e9
 replace B_b1:=zbx B_b1 e9
 replace B_b2:=zbx B_b2 e9
 replace HC:=zrx HC e9
 replace HB:=zrx HB e9
 replace HG:=zrx HG e9
 replace HF:=zrx HF e9
 replace EW:=Lib.hid (EW.out.trans e9)
 show wpList _ _ _ [_,_] _ _
 go_wp2_with ((with_reducible refine zst (L:=[44,41,31,100]) ?_ ?_); exact rfl)
 unfold Hid
 refine wpList_storeP rfl 98 (.tmp 56) (.tmp 55) rfl b0 5 rfl [.slice qa (gl.length + 1) qc] (rfl) B_b0 rfl (by kernel_rfl) rfl [.slice ca cl.length cc,I at_,.bool true,I gen,.slice (some ⟨xb,xo + 1,none⟩) l.length (xc - 1),.slice qa (gl.length + 1) qc] rfl (fun w6_ M6=>?_)
 replace B_b0:=zwb M6
 replace B_b1:=zwg M6 B_b1 D_b0_b1
 replace B_b2:=zwg M6 B_b2 D_b0_b2
 replace HC:=zwr M6 HC N_b0
 replace HB:=zwr M6 HB N_b0
 replace HG:=zwr M6 HG N_b0
 replace HF:=zwr M6 HF N_b0
 replace HRO:=zwr M6 HRO N_b0
 replace EW:=zwe M6 EW O_b0
 have c1:=cell_of (i:=1) B_b0.out rfl
 go_wp2_with ((with_reducible refine zst (L:=[44,41,31,100]) ?_ ?_); exact rfl)
 unfold Hid
 clear c1
 refine wpList_storeP rfl 3 (.tmp 60) (.tmp 59) rfl b0 1 rfl [I (at_ + 1)] (rfl) B_b0 rfl (by kernel_rfl) rfl [.slice ca cl.length cc,I (at_ + 1),.bool true,I gen,.slice (some ⟨xb,xo + 1,none⟩) l.length (xc - 1),.slice qa (gl.length + 1) qc] rfl (fun w7_ M7=>?_)
 replace B_b0:=zwb M7
 replace B_b1:=zwg M7 B_b1 D_b0_b1
 replace B_b2:=zwg M7 B_b2 D_b0_b2
 replace HC:=zwr M7 HC N_b0
 replace HB:=zwr M7 HB N_b0
 replace HG:=zwr M7 HG N_b0
 replace HF:=zwr M7 HF N_b0
 replace HRO:=zwr M7 HRO N_b0
 replace EW:=zwe M7 EW O_b0
 go_wp2_with ((with_reducible refine zst (L:=[44,41,31,100]) ?_ ?_); exact rfl)
 unfold Hid
 refine wpList_storeP rfl 4 (.tmp 61) (.const (.bool false)) rfl b0 2 rfl [.bool false] (rfl) B_b0 rfl (by kernel_rfl) rfl [.slice ca cl.length cc,I (at_ + 1),.bool false,I gen,.slice (some ⟨xb,xo + 1,none⟩) l.length (xc - 1),.slice qa (gl.length + 1) qc] rfl (fun w8_ M8=>?_)
 replace B_b0:=zwb M8
 replace B_b1:=zwg M8 B_b1 D_b0_b1
 replace B_b2:=zwg M8 B_b2 D_b0_b2
 replace HC:=zwr M8 HC N_b0
 replace HB:=zwr M8 HB N_b0
 replace HG:=zwr M8 HG N_b0
 replace HF:=zwr M8 HF N_b0
 replace HRO:=zwr M8 HRO N_b0
 replace EW:=zwe M8 EW O_b0
 go_wp2_with ((with_reducible refine zst (L:=[44,41,31,100]) ?_ ?_); exact rfl)
 unfold Hid
 refine wpList_loadW rfl 100 (.tmp 4) rfl b0 rfl B_b0 Tryz.underlying100 (by kernel_rfl) (fun v62 H_v62=>?_)
 go_wp2_with ((with_reducible refine zst (L:=[44,41,31,100]) ?_ ?_); exact rfl)
 unfold Hid
 refine wpList_storeW rfl 100 (.tmp 8) (.tmp 62) rfl b1 rfl _ (zcv H_v62) B_b1 rfl (by kernel_rfl) rfl (fun w9_ M9=>?_)
 replace B_b0:=zwl M9 B_b0 D_b0_b1
 replace B_b1:=zwb M9
 replace B_b2:=zwg M9 B_b2 D_b1_b2
 replace HC:=zwr M9 HC N_b1
 replace HB:=zwr M9 HB N_b1
 replace HG:=zwr M9 HG N_b1
 replace HF:=zwr M9 HF N_b1
 replace HRO:=zwr M9 HRO N_b1
 replace EW:=zwe M9 EW O_b1
 go_wp2
 have z0:=run_box (P:=Tryz.prog) 100 B_b1.out Tryz.underlying100 (by kernel_rfl)
 refine bodyPost_ret (by simp [results,Tryz.results45,asAddr,z0]; rfl) rfl ?_
 exact ⟨_,rfl,EW.out,Rd.widen (A:=B1) (tup3_rd (cn_rd (c:=⟨cl,(at_ + 1),false,gen,l,(gl ++ [⟨re,rn⟩])⟩) HC.out HB.out HRO.out) (Rd.all fun w=>bytes_nil w)) (fun k _ h=>HK.out.2.2.2 k (I_B1.out k h))⟩

end Go.Proofs.YtdmipnnfooleladGreat
