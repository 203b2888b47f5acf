/- Texts of the proof, merged: N7 N9 V2 V3 G1. -/
import Derived.Test.YtdmipnnfooleladKJ
import Derived.Test.YtdmipnnfooleladKC
import Derived.Test.YtdmipnnfooleladKF
import Derived.Test.YtdmipnnfooleladKG
import Derived.Test.YtdmipnnfooleladKH
import Derived.Test.YtdmipnnfooleladKB

namespace Go.Proofs.Ytdmipnnfoolelad
open Go.RowKit Go.Mk

set_option maxRecDepth 100000 in
set_option maxHeartbeats 4000000 in
theorem refServe_take (sc : List Int) (su : List (Int × Int)) (sa : List An) (sp : List Rq) (gen : Int) (nc nt nk na no nn : Int) (se sn : Int) (b : List UInt8) (l : List (List UInt8)) (pl : List (Int × Int)) (c u a p box plan : Value) (w : World) (A : Nat → Prop) (hs : Rd A (fun w=>elSt w [c,u,a,p] ⟨sc,su,sa,sp⟩) w) (hb : Rd A (fun w=>RowOf 1 elBs w box (b :: l)) w) (hp : Rd A (fun w=>Writes w plan pl) w) (hwo : Weak sc) :
  Keeps Try.prog 36 #[.agg #[c,u,a,p],.agg #[I gen,box,.bool false,I nc,I nt,I nk,I na,I no,I nn,plan,I se,I sn]] w A (fun r w'=>Tup4 (serveM ⟨sc,su,sa,sp⟩ ⟨gen,(b :: l),false,⟨nc,nt,⟨nk,na,no,nn⟩⟩,pl,⟨se,sn⟩⟩).1 (serveM ⟨sc,su,sa,sp⟩ ⟨gen,(b :: l),false,⟨nc,nt,⟨nk,na,no,nn⟩⟩,pl,⟨se,sn⟩⟩).2.1 (serveM ⟨sc,su,sa,sp⟩ ⟨gen,(b :: l),false,⟨nc,nt,⟨nk,na,no,nn⟩⟩,pl,⟨se,sn⟩⟩).2.2.1 (serveM ⟨sc,su,sa,sp⟩ ⟨gen,(b :: l),false,⟨nc,nt,⟨nk,na,no,nn⟩⟩,pl,⟨se,sn⟩⟩).2.2.2 r w'):=by
 suffices hall : ∀ T : Value → World → Prop,(∀ r A w,Rd A (Tup4 (serveM ⟨sc,su,sa,sp⟩ ⟨gen,(b :: l),false,⟨nc,nt,⟨nk,na,no,nn⟩⟩,pl,⟨se,sn⟩⟩).1 (serveM ⟨sc,su,sa,sp⟩ ⟨gen,(b :: l),false,⟨nc,nt,⟨nk,na,no,nn⟩⟩,pl,⟨se,sn⟩⟩).2.1 (serveM ⟨sc,su,sa,sp⟩ ⟨gen,(b :: l),false,⟨nc,nt,⟨nk,na,no,nn⟩⟩,pl,⟨se,sn⟩⟩).2.2.1 (serveM ⟨sc,su,sa,sp⟩ ⟨gen,(b :: l),false,⟨nc,nt,⟨nk,na,no,nn⟩⟩,pl,⟨se,sn⟩⟩).2.2.2 r) w → Rd A (T r) w) → Keeps Try.prog 36 #[.agg #[c,u,a,p],.agg #[I gen,box,.bool false,I nc,I nt,I nk,I na,I no,I nn,plan,I se,I sn]] w A T from hall _ (fun _ _ _ h=>h)
 intro T hT
 have HT:=Lib.hid hT
 clear hT
 unfold Keeps
 obtain ⟨h1,h2,h3,h4⟩:=st_iff.1 hs.out
 obtain ⟨ca,cc,rfl⟩:=row_slice h1
 obtain ⟨ua,uc,rfl⟩:=row_slice h2
 obtain ⟨aa,ac,rfl⟩:=rowOf_slice h3
 obtain ⟨pa,pc,rfl⟩:=rowOf_slice h4
 simp only [] at *
 have EW:=Lib.hid (Ext.refl w)
 obtain ⟨B,hB⟩:=away A w.heap.size 4
 have HK:=Lib.hid hB
 clear hB
 have R0:=Lib.hid ((hs.and hp).widen HK.out.1)
 obtain ⟨la,lc,rfl⟩:=row_slice hp.out
 obtain ⟨xb,xo,xc,bv,rfl,hx1,hx2,hf,hrest⟩:=box_first (hb.widen HK.out.1)
 have HF:=Lib.hid hf
 have HB:=Lib.hid hrest
 unfold maxLen at hx2
 have HWO:=Lib.hid hwo
 clear h1 h2 h3 h4 hs hb hp hf hrest hwo
 obtain ⟨⟨rc,rt,⟨rk,ra,ro,rn⟩⟩,re,hrr⟩ : ∃ x y,readRq b = (x,y):=⟨_,_,rfl⟩
 have HRR:=Lib.hid hrr
 clear hrr
 obtain ⟨⟨lc2,lt,⟨le,ln⟩⟩,LB,hL⟩ : ∃ x y,lastAn sa rc = (x,y):=⟨_,_,rfl⟩
 have HL:=Lib.hid hL
 clear hL
 go_enter Try.func36,Try.ntmps36
 go_wp2_with ((with_reducible refine zst (L:=[43,40,30,67]) ?_ ?_); exact rfl)
 unfold Hid
 refine wpList_boxB rfl 30 (.tmp 0) rfl #[.slice ca sc.length cc,.slice ua su.length uc,.slice aa sa.length ac,.slice pa sp.length pc] rfl (fun b0 w1_ M1=>?_)
 have B_b0:=zmb M1
 replace R0:=zme M1 R0
 replace HF:=zme M1 HF
 replace HB:=zme M1 HB
 replace EW:=zet EW M1
 go_wp2_with ((with_reducible refine zst (L:=[43,40,30,67]) ?_ ?_); exact rfl)
 unfold Hid
 refine wpList_boxB rfl 40 (.tmp 1) rfl #[I gen,.slice (some ⟨xb,xo,none⟩) (l.length + 1) xc,.bool false,I nc,I nt,I nk,I na,I no,I nn,.slice la pl.length lc,I se,I sn] rfl (fun b1 w2_ M2=>?_)
 have D_b0_b1:=zld B_b0 M2
 replace B_b0:=zmo M2 B_b0
 have B_b1:=zmb M2
 replace R0:=zme M2 R0
 replace HF:=zme M2 HF
 replace HB:=zme M2 HB
 replace EW:=zet EW M2
 go_wp2_with ((with_reducible refine zst (L:=[43,40,30,67]) ?_ ?_); exact rfl)
 unfold Hid
 refine wpList_allocB rfl 30 #[.slice none 0 0,.slice none 0 0,.slice none 0 0,.slice none 0 0] (by kernel_rfl) (fun b2 w3_ M3=>?_)
 have D_b0_b2:=zld B_b0 M3
 have D_b1_b2:=zld B_b1 M3
 replace B_b0:=zmo M3 B_b0
 replace B_b1:=zmo M3 B_b1
 have B_b2:=zmb M3
 replace R0:=zme M3 R0
 replace HF:=zme M3 HF
 replace HB:=zme M3 HB
 replace EW:=zet EW M3
 go_wp2_with ((with_reducible refine zst (L:=[43,40,30,67]) ?_ ?_); exact rfl)
 unfold Hid
 refine wpList_allocB rfl 40 #[I 0,.slice none 0 0,.bool false,I 0,I 0,I 0,I 0,I 0,I 0,.slice none 0 0,I 0,I 0] (by kernel_rfl) (fun b3 w4_ M4=>?_)
 have D_b0_b3:=zld B_b0 M4
 have D_b1_b3:=zld B_b1 M4
 have D_b2_b3:=zld B_b2 M4
 replace B_b0:=zmo M4 B_b0
 replace B_b1:=zmo M4 B_b1
 replace B_b2:=zmo M4 B_b2
 have B_b3:=zmb M4
 replace R0:=zme M4 R0
 replace HF:=zme M4 HF
 replace HB:=zme M4 HB
 replace EW:=zet EW M4
 have A_b0 : Hid (b0 = w.heap.size + 0):=by unfold Hid; have q0:=M1.out.at_; have r0:=M1.out.size; omega
 have N_b0:=znb HK A_b0 (by decide)
 have O_b0:=zob A_b0
 have A_b1 : Hid (b1 = w.heap.size + 1):=by unfold Hid; have q0:=M1.out.at_; have r0:=M1.out.size; have q1:=M2.out.at_; have r1:=M2.out.size; omega
 have N_b1:=znb HK A_b1 (by decide)
 have O_b1:=zob A_b1
 have A_b2 : Hid (b2 = w.heap.size + 2):=by unfold Hid; have q0:=M1.out.at_; have r0:=M1.out.size; have q1:=M2.out.at_; have r1:=M2.out.size; have q2:=M3.out.at_; have r2:=M3.out.size; omega
 have N_b2:=znb HK A_b2 (by decide)
 have O_b2:=zob A_b2
 have A_b3 : Hid (b3 = w.heap.size + 3):=by unfold Hid; have q0:=M1.out.at_; have r0:=M1.out.size; have q1:=M2.out.at_; have r1:=M2.out.size; have q2:=M3.out.at_; have r2:=M3.out.size; have q3:=M4.out.at_; have r3:=M4.out.size; omega
 have N_b3:=znb HK A_b3 (by decide)
 have O_b3:=zob A_b3
 have c1:=cell_of (i:=1) B_b1.out rfl
 have cx:=HF.out.out.1
 have c2:=cell_of (i:=2) B_b1.out rfl
 go_wp2_with fail
 clear c1 cx c2
 have hl:=refReadRequest_any bv b w4_ HF.out.out.2
 rw [HRR.out] at hl
 refine Calls.exts hl (fun wa ea=>?_)
 clear hl HF
 replace B_b0:=zbx B_b0 ea
 replace B_b1:=zbx B_b1 ea
 replace B_b2:=zbx B_b2 ea
 replace B_b3:=zbx B_b3 ea
 replace R0:=zrx R0 ea
 replace HB:=zrx HB ea
 replace EW:=Lib.hid (EW.out.trans ea)
 clear ea
 go_wp2_with ((with_reducible refine zst (L:=[43,40,30,67]) ?_ ?_); exact rfl)
 unfold Hid
 refine wpList_allocB rfl 35 #[I 0,I 0,I 0,I 0,I 0,I 0] (by kernel_rfl) (fun b4 w5_ M5=>?_)
 have D_b0_b4:=zld B_b0 M5
 have D_b1_b4:=zld B_b1 M5
 have D_b2_b4:=zld B_b2 M5
 have D_b3_b4:=zld B_b3 M5
 obtain ⟨B1,HB1⟩ : ∃ X : Nat → Prop,Hid (∀ k,X k ↔ (B k ∧ k ≠ b4)):=⟨_,fun _=>Iff.rfl⟩
 replace R0:=zmd HB1 M5 R0
 replace HB:=zmd HB1 M5 HB
 replace N_b0:=znw HB1 N_b0
 replace N_b1:=znw HB1 N_b1
 replace N_b2:=znw HB1 N_b2
 replace N_b3:=znw HB1 N_b3
 have N_b4 : Hid (¬ B1 b4):=fun h=>((HB1.out _).1 h).2 rfl
 have I_B1 : Hid (∀ k,B1 k → B k):=fun k h=>((HB1.out k).1 h).1
 have O_b4 : Hid (w.heap.size ≤ b4):=by unfold Hid; have q2:=M5.out.at_; have q3:=EW.out.size; omega
 replace B_b0:=zmo M5 B_b0
 replace B_b1:=zmo M5 B_b1
 replace B_b2:=zmo M5 B_b2
 replace B_b3:=zmo M5 B_b3
 have B_b4:=zmb M5
 replace R0:=zme M5 R0
 replace HB:=zme M5 HB
 replace EW:=zet EW M5
 go_wp2_with ((with_reducible refine zst (L:=[43,40,30,67]) ?_ ?_); exact rfl)
 unfold Hid
 refine wpList_storeW rfl 35 (.tmp 9) (.tmp 69) rfl b4 rfl [I rc,I rt,I rk,I ra,I ro,I rn] (rfl) B_b4 rfl (by kernel_rfl) rfl (fun w6_ M6=>?_)
 replace B_b0:=zwl M6 B_b0 D_b0_b4
 replace B_b1:=zwl M6 B_b1 D_b1_b4
 replace B_b2:=zwl M6 B_b2 D_b2_b4
 replace B_b3:=zwl M6 B_b3 D_b3_b4
 replace B_b4:=zwb M6
 replace R0:=zwr M6 R0 N_b4
 replace HB:=zwr M6 HB N_b4
 replace EW:=zwe M6 EW O_b4
 have c1:=cell_of (i:=1) B_b1.out rfl
 go_wp2_with (first | ((with_reducible refine zst (L:=[43,40,30,67]) ?_ ?_); exact rfl) | ((with_reducible refine zsc ?_ ?_); exact rfl))
 unfold Hid
 clear c1
 refine wpList_cut rfl l.length (fun na nc=>Rd B1 (fun w=>RowOf 1 elBs w (.slice na l.length nc) l) w6_) ?_ (fun na' nc' hn=>?_)
 ·by_cases hcap : xc = 1
  ·have hl0 : l = []:=List.eq_nil_of_length_eq_zero (by omega)
   refine ⟨some ⟨xb,xo,none⟩,0,by rw [hl0]; exact Rd.all fun w=>rowOf_empty w xb xo 0 (by decide),?_⟩
   rw [hl0]
   subst hcap
   go_simp
  ·exact ⟨some ⟨xb,xo + 1,none⟩,xc - 1,HB.out,by go_simp; intro h; omega⟩
 replace HB:=Lib.hid hn
 clear hn hx1 hx2
 go_wp2_with ((with_reducible refine zst (L:=[43,40,30,67]) ?_ ?_); exact rfl)
 unfold Hid
 refine wpList_storeP rfl 31 (.tmp 74) (.tmp 73) rfl b1 1 rfl [.slice na' l.length nc'] (rfl) B_b1 rfl (by kernel_rfl) rfl [I gen,.slice na' l.length nc',.bool false,I nc,I nt,I nk,I na,I no,I nn,.slice la pl.length lc,I se,I sn] rfl (fun w7_ M7=>?_)
 replace B_b0:=zwl M7 B_b0 D_b0_b1
 replace B_b1:=zwb M7
 replace B_b2:=zwg M7 B_b2 D_b1_b2
 replace B_b3:=zwg M7 B_b3 D_b1_b3
 replace B_b4:=zwg M7 B_b4 D_b1_b4
 replace R0:=zwr M7 R0 N_b1
 replace HB:=zwr M7 HB N_b1
 replace EW:=zwe M7 EW O_b1
 by_cases hre : re = 0
 case neg =>
  have hbe : (re != 0) = true:=by simpa using hre
  go_wp2_with fail
  refine held_drew (S:=fun w'=>w'.heap[b0]? = some (.cells #[.slice ca sc.length cc,.slice ua su.length uc,.slice aa sa.length ac,.slice pa sp.length pc] 30 (0,0)) ∧ w'.heap[b1]? = some (.cells #[I gen,.slice na' l.length nc',.bool false,I nc,I nt,I nk,I na,I no,I nn,.slice la pl.length lc,I se,I sn] 40 (0,0))) (by kernel_rfl) (fun wd ed _=>?_)
  replace B_b0:=zbx B_b0 ed
  replace B_b1:=zbx B_b1 ed
  replace B_b2:=zbx B_b2 ed
  replace B_b3:=zbx B_b3 ed
  replace B_b4:=zbx B_b4 ed
  replace R0:=zrx R0 ed
  replace HB:=zrx HB ed
  replace EW:=Lib.hid (EW.out.trans ed)
  have HSS : Hid (wd.heap[b0]? = some (.cells #[.slice ca sc.length cc,.slice ua su.length uc,.slice aa sa.length ac,.slice pa sp.length pc] 30 (0,0)) ∧ wd.heap[b1]? = some (.cells #[I gen,.slice na' l.length nc',.bool false,I nc,I nt,I nk,I na,I no,I nn,.slice la pl.length lc,I se,I sn] 40 (0,0))):=⟨B_b0.out,B_b1.out⟩
  refine held_loadW 0 rfl (by kernel_rfl) (by kernel_rfl) (by kernel_rfl) (fun _ _ _ _ h=>h) rfl 30 (.tmp 2) rfl b0 rfl (fun w' hS=>hS.1) Try.underlying30 (by kernel_rfl) HSS ?_
  refine held_norm (fun K hK=>?_); go_simp; refine hK _ ?_; clear hK K
  refine held_loadW 1 rfl (by kernel_rfl) (by kernel_rfl) (by kernel_rfl) (fun _ _ _ _ h=>h) rfl 40 (.tmp 3) rfl b1 rfl (fun w' hS=>hS.2) Try.underlying40 (by kernel_rfl) HSS ?_
  refine held_norm (fun K hK=>?_); go_simp; refine hK _ ?_; clear hK K
  refine held_storeW 2 (by kernel_rfl) rfl rfl 30 (.tmp 4) (.tmp 77) rfl b2 rfl [.slice ca sc.length cc,.slice ua su.length uc,.slice aa sa.length ac,.slice pa sp.length pc] (rfl) B_b2 rfl (by kernel_rfl) rfl (fun w8_ M8=>⟨?_,?_⟩)
  ·exact ⟨M8.out.old B_b0.out (Nat.ne_of_lt D_b0_b2.out),M8.out.old B_b1.out (Nat.ne_of_lt D_b1_b2.out)⟩
  replace B_b0:=zwl M8 B_b0 D_b0_b2
  replace B_b1:=zwl M8 B_b1 D_b1_b2
  replace B_b2:=zwb M8
  replace B_b3:=zwg M8 B_b3 D_b2_b3
  replace B_b4:=zwg M8 B_b4 D_b2_b4
  replace R0:=zwr M8 R0 N_b2
  replace HB:=zwr M8 HB N_b2
  replace EW:=zwe M8 EW O_b2
  clear HSS
  have HSS : Hid (w8_.heap[b0]? = some (.cells #[.slice ca sc.length cc,.slice ua su.length uc,.slice aa sa.length ac,.slice pa sp.length pc] 30 (0,0)) ∧ w8_.heap[b1]? = some (.cells #[I gen,.slice na' l.length nc',.bool false,I nc,I nt,I nk,I na,I no,I nn,.slice la pl.length lc,I se,I sn] 40 (0,0))):=⟨B_b0.out,B_b1.out⟩
  refine held_norm (fun K hK=>?_); go_simp; refine hK _ ?_; clear hK K
  refine held_storeW 3 (by kernel_rfl) rfl rfl 40 (.tmp 5) (.tmp 78) rfl b3 rfl [I gen,.slice na' l.length nc',.bool false,I nc,I nt,I nk,I na,I no,I nn,.slice la pl.length lc,I se,I sn] (rfl) B_b3 rfl (by kernel_rfl) rfl (fun w9_ M9=>⟨?_,?_⟩)
  ·exact ⟨M9.out.old B_b0.out (Nat.ne_of_lt D_b0_b3.out),M9.out.old B_b1.out (Nat.ne_of_lt D_b1_b3.out)⟩
  replace B_b0:=zwl M9 B_b0 D_b0_b3
  replace B_b1:=zwl M9 B_b1 D_b1_b3
  replace B_b2:=zwl M9 B_b2 D_b2_b3
  replace B_b3:=zwb M9
  replace B_b4:=zwg M9 B_b4 D_b3_b4
  replace R0:=zwr M9 R0 N_b3
  replace HB:=zwr M9 HB N_b3
  replace EW:=zwe M9 EW O_b3
  clear HSS
  have HSS : Hid (w9_.heap[b0]? = some (.cells #[.slice ca sc.length cc,.slice ua su.length uc,.slice aa sa.length ac,.slice pa sp.length pc] 30 (0,0)) ∧ w9_.heap[b1]? = some (.cells #[I gen,.slice na' l.length nc',.bool false,I nc,I nt,I nk,I na,I no,I nn,.slice la pl.length lc,I se,I sn] 40 (0,0))):=⟨B_b0.out,B_b1.out⟩
  refine held_norm (fun K hK=>?_); go_simp; refine hK _ ?_; clear hK K
  refine held_value 4 (by kernel_rfl) rfl rfl _ rfl HSS.out ?_
  refine held_norm (fun K hK=>?_); go_simp; refine hK _ ?_; clear hK K
  refine held_value 5 (by kernel_rfl) rfl rfl _ rfl HSS.out ?_
  refine held_norm (fun K hK=>?_); go_simp; refine hK _ ?_; clear hK K
  refine wpAnyH_done (by kernel_rfl) ?_ _
  clear HSS
  go_wp2
  have z0:=run_box (P:=Try.prog) 30 B_b2.out Try.underlying30 (by kernel_rfl)
  have z1:=run_box (P:=Try.prog) 40 B_b3.out Try.underlying40 (by kernel_rfl)
  refine bodyPost_ret (by simp [results,Try.results36,asAddr,z0,z1]; rfl) rfl ?_
  have hX : serveM ⟨sc,su,sa,sp⟩ ⟨gen,(b :: l),false,⟨nc,nt,⟨nk,na,no,nn⟩⟩,pl,⟨se,sn⟩⟩ = (⟨sc,su,sa,sp⟩,⟨gen,l,false,⟨nc,nt,⟨nk,na,no,nn⟩⟩,pl,⟨se,sn⟩⟩,[],0):=by
   show (if (readRq b).2 ≠ 0 then _ else if (lastAn sa (readRq b).1.client).2 = true ∧ (readRq b).1.token ≤ (lastAn sa (readRq b).1.client).1.token then (if (lastAn sa (readRq b).1.client).1.token = (readRq b).1.token then _ else _) else _) = _
   rw [HRR.out]
   simp only []
   rw [HL.out]
   rw [if_pos hre]
  have ht:=HT.out
  rw [hX] at ht
  exact ⟨_,rfl,EW.out,ht _ _ _ (Rd.widen (A:=B1) (tup4_rd R0.out.left (sv_rd (v:=⟨gen,l,false,⟨nc,nt,⟨nk,na,no,nn⟩⟩,pl,⟨se,sn⟩⟩) HB.out R0.out.right) (Rd.all fun w=>bytes_nil w)) (fun k _ h=>HK.out.2.2.2 k (I_B1.out k h)))⟩
 subst hre
 go_wp2_with ((with_reducible refine zst (L:=[43,40,30,67]) ?_ ?_); exact rfl)
 unfold Hid
 refine wpList_loadW rfl 30 (.tmp 2) rfl b0 rfl B_b0 Try.underlying30 (by kernel_rfl) (fun v80 H_v80=>?_)
 have d0:=cell_of (i:=0) B_b4.out rfl
 go_wp2_with fail
 clear d0
 rw [H_v80.out]
 have hl:=refLast_any _ _ _ _ ⟨sc,su,sa,sp⟩ rc w7_ R0.out.left.out
 rw [HL.out] at hl
 refine Calls.exts hl (fun wl el=>?_)
 clear hl H_v80
 replace B_b0:=zbx B_b0 el
 replace B_b1:=zbx B_b1 el
 replace B_b2:=zbx B_b2 el
 replace B_b3:=zbx B_b3 el
 replace B_b4:=zbx B_b4 el
 replace R0:=zrx R0 el
 replace HB:=zrx HB el
 replace EW:=Lib.hid (EW.out.trans el)
 clear el
 go_wp2_with ((with_reducible refine zst (L:=[43,40,30,67]) ?_ ?_); exact rfl)
 unfold Hid
 refine wpList_allocB rfl 77 #[I 0,I 0,I 0,I 0] (by kernel_rfl) (fun b5 w8_ M8=>?_)
 have D_b0_b5:=zld B_b0 M8
 have D_b1_b5:=zld B_b1 M8
 have D_b2_b5:=zld B_b2 M8
 have D_b3_b5:=zld B_b3 M8
 have D_b4_b5:=zld B_b4 M8
 obtain ⟨B11,HB11⟩ : ∃ X : Nat → Prop,Hid (∀ k,X k ↔ (B1 k ∧ k ≠ b5)):=⟨_,fun _=>Iff.rfl⟩
 replace R0:=zmd HB11 M8 R0
 replace HB:=zmd HB11 M8 HB
 replace N_b0:=znw HB11 N_b0
 replace N_b1:=znw HB11 N_b1
 replace N_b2:=znw HB11 N_b2
 replace N_b3:=znw HB11 N_b3
 replace N_b4:=znw HB11 N_b4
 have N_b5 : Hid (¬ B11 b5):=fun h=>((HB11.out _).1 h).2 rfl
 have I_B11 : Hid (∀ k,B11 k → B1 k):=fun k h=>((HB11.out k).1 h).1
 have O_b5 : Hid (w.heap.size ≤ b5):=by unfold Hid; have q2:=M8.out.at_; have q3:=EW.out.size; omega
 replace B_b0:=zmo M8 B_b0
 replace B_b1:=zmo M8 B_b1
 replace B_b2:=zmo M8 B_b2
 replace B_b3:=zmo M8 B_b3
 replace B_b4:=zmo M8 B_b4
 have B_b5:=zmb M8
 replace R0:=zme M8 R0
 replace HB:=zme M8 HB
 replace EW:=zet EW M8
 go_wp2_with ((with_reducible refine zst (L:=[43,40,30,67]) ?_ ?_); exact rfl)
 unfold Hid
 refine wpList_storeW rfl 77 (.tmp 11) (.tmp 84) rfl b5 rfl [I lc2,I lt,I le,I ln] (rfl) B_b5 rfl (by kernel_rfl) rfl (fun w9_ M9=>?_)
 replace B_b0:=zwl M9 B_b0 D_b0_b5
 replace B_b1:=zwl M9 B_b1 D_b1_b5
 replace B_b2:=zwl M9 B_b2 D_b2_b5
 replace B_b3:=zwl M9 B_b3 D_b3_b5
 replace B_b4:=zwl M9 B_b4 D_b4_b5
 replace B_b5:=zwb M9
 replace R0:=zwr M9 R0 N_b5
 replace HB:=zwr M9 HB N_b5
 replace EW:=zwe M9 EW O_b5
 have d1:=cell_of (i:=1) B_b4.out rfl
 have l1:=cell_of (i:=1) B_b5.out rfl
 by_cases hq1 : LB = true ∧ lt = rt
 case pos =>
  obtain ⟨rfl,rfl⟩:=hq1
  go_wp2_with fail
  clear d1 l1
  refine held_drew (S:=fun w'=>w'.heap[b0]? = some (.cells #[.slice ca sc.length cc,.slice ua su.length uc,.slice aa sa.length ac,.slice pa sp.length pc] 30 (0,0)) ∧ w'.heap[b1]? = some (.cells #[I gen,.slice na' l.length nc',.bool false,I nc,I nt,I nk,I na,I no,I nn,.slice la pl.length lc,I se,I sn] 40 (0,0)) ∧ w'.heap[b5]? = some (.cells #[I lc2,I lt,I le,I ln] 77 (0,0))) (by kernel_rfl) (fun wd ed _=>?_)
  replace B_b0:=zbx B_b0 ed
  replace B_b1:=zbx B_b1 ed
  replace B_b2:=zbx B_b2 ed
  replace B_b3:=zbx B_b3 ed
  replace B_b4:=zbx B_b4 ed
  replace B_b5:=zbx B_b5 ed
  replace R0:=zrx R0 ed
  replace HB:=zrx HB ed
  replace EW:=Lib.hid (EW.out.trans ed)
  have HSS : Hid (wd.heap[b0]? = some (.cells #[.slice ca sc.length cc,.slice ua su.length uc,.slice aa sa.length ac,.slice pa sp.length pc] 30 (0,0)) ∧ wd.heap[b1]? = some (.cells #[I gen,.slice na' l.length nc',.bool false,I nc,I nt,I nk,I na,I no,I nn,.slice la pl.length lc,I se,I sn] 40 (0,0)) ∧ wd.heap[b5]? = some (.cells #[I lc2,I lt,I le,I ln] 77 (0,0))):=⟨B_b0.out,B_b1.out,B_b5.out⟩
  refine held_loadW 0 rfl (by kernel_rfl) (by kernel_rfl) (by kernel_rfl) (fun _ _ _ _ h=>h) rfl 30 (.tmp 2) rfl b0 rfl (fun w' hS=>hS.1) Try.underlying30 (by kernel_rfl) HSS ?_
  refine held_norm (fun K hK=>?_); go_simp; refine hK _ ?_; clear hK K
  refine held_loadW 1 rfl (by kernel_rfl) (by kernel_rfl) (by kernel_rfl) (fun _ _ _ _ h=>h) rfl 40 (.tmp 3) rfl b1 rfl (fun w' hS=>hS.2.1) Try.underlying40 (by kernel_rfl) HSS ?_
  refine held_norm (fun K hK=>?_); go_simp; refine hK _ ?_; clear hK K
  refine held_loadW 2 rfl (by kernel_rfl) (by kernel_rfl) (by kernel_rfl) (fun _ _ _ _ h=>h) rfl 77 (.tmp 11) rfl b5 rfl (fun w' hS=>hS.2.2) Try.underlying77 (by kernel_rfl) HSS ?_
  refine held_norm (fun K hK=>?_); go_simp; refine hK _ ?_; clear hK K
  refine held_call 3 (by kernel_rfl) rfl rfl 53 #[.agg #[I lc2,I lt,I le,I ln]] (by go_simp) ?_
  refine (AnswerBytes_own lc2 lt le ln wd).to fun v45 w9 e9 hby=>?_
  replace hby:=hby.rd
  have hsz : w.heap.size + 4 ≤ wd.heap.size:=by have q:=(Array.getElem?_eq_some_iff.1 B_b3.out).1; have q2:=A_b3.out; omega
  have hz4 : b4 < wd.heap.size:=(Array.getElem?_eq_some_iff.1 B_b4.out).1
  have hz5 : b5 < wd.heap.size:=(Array.getElem?_eq_some_iff.1 B_b5.out).1
  have HBY:=Lib.hid (hby.widen (B:=B11) (fun k _ h=>(HB11.out k).2 ⟨(HB1.out k).2 ⟨HK.out.2.1 k (by omega),by omega⟩,by omega⟩))
  clear hby hsz hz4 hz5
  replace B_b0:=zbx B_b0 e9
  replace B_b1:=zbx B_b1 e9
  replace B_b2:=zbx B_b2 e9
  replace B_b3:=zbx B_b3 e9
  replace B_b4:=zbx B_b4 e9
  replace B_b5:=zbx B_b5 e9
  replace R0:=zrx R0 e9
  replace HB:=zrx HB e9
  replace EW:=Lib.hid (EW.out.trans e9)
  clear HSS
  refine ⟨_,rfl,⟨B_b0.out,B_b1.out,B_b5.out⟩,?_⟩
  have HSS : Hid (w9.heap[b0]? = some (.cells #[.slice ca sc.length cc,.slice ua su.length uc,.slice aa sa.length ac,.slice pa sp.length pc] 30 (0,0)) ∧ w9.heap[b1]? = some (.cells #[I gen,.slice na' l.length nc',.bool false,I nc,I nt,I nk,I na,I no,I nn,.slice la pl.length lc,I se,I sn] 40 (0,0)) ∧ w9.heap[b5]? = some (.cells #[I lc2,I lt,I le,I ln] 77 (0,0))):=⟨B_b0.out,B_b1.out,B_b5.out⟩
  refine held_norm (fun K hK=>?_); go_simp; refine hK _ ?_; clear hK K
  refine held_storeW 4 (by kernel_rfl) rfl rfl 30 (.tmp 4) (.tmp 99) rfl b2 rfl [.slice ca sc.length cc,.slice ua su.length uc,.slice aa sa.length ac,.slice pa sp.length pc] (rfl) B_b2 rfl (by kernel_rfl) rfl (fun w10_ M10=>⟨?_,?_⟩)
  ·exact ⟨M10.out.old B_b0.out (Nat.ne_of_lt D_b0_b2.out),M10.out.old B_b1.out (Nat.ne_of_lt D_b1_b2.out),M10.out.old B_b5.out (Nat.ne_of_gt D_b2_b5.out)⟩
  replace B_b0:=zwl M10 B_b0 D_b0_b2
  replace B_b1:=zwl M10 B_b1 D_b1_b2
  replace B_b2:=zwb M10
  replace B_b3:=zwg M10 B_b3 D_b2_b3
  replace B_b4:=zwg M10 B_b4 D_b2_b4
  replace B_b5:=zwg M10 B_b5 D_b2_b5
  replace R0:=zwr M10 R0 N_b2
  replace HB:=zwr M10 HB N_b2
  replace HBY:=zwr M10 HBY N_b2
  replace EW:=zwe M10 EW O_b2
  clear HSS
  have HSS : Hid (w10_.heap[b0]? = some (.cells #[.slice ca sc.length cc,.slice ua su.length uc,.slice aa sa.length ac,.slice pa sp.length pc] 30 (0,0)) ∧ w10_.heap[b1]? = some (.cells #[I gen,.slice na' l.length nc',.bool false,I nc,I nt,I nk,I na,I no,I nn,.slice la pl.length lc,I se,I sn] 40 (0,0)) ∧ w10_.heap[b5]? = some (.cells #[I lc2,I lt,I le,I ln] 77 (0,0))):=⟨B_b0.out,B_b1.out,B_b5.out⟩
  refine held_norm (fun K hK=>?_); go_simp; refine hK _ ?_; clear hK K
  refine held_storeW 5 (by kernel_rfl) rfl rfl 40 (.tmp 5) (.tmp 100) rfl b3 rfl [I gen,.slice na' l.length nc',.bool false,I nc,I nt,I nk,I na,I no,I nn,.slice la pl.length lc,I se,I sn] (rfl) B_b3 rfl (by kernel_rfl) rfl (fun w11_ M11=>⟨?_,?_⟩)
  ·exact ⟨M11.out.old B_b0.out (Nat.ne_of_lt D_b0_b3.out),M11.out.old B_b1.out (Nat.ne_of_lt D_b1_b3.out),M11.out.old B_b5.out (Nat.ne_of_gt D_b3_b5.out)⟩
  replace B_b0:=zwl M11 B_b0 D_b0_b3
  replace B_b1:=zwl M11 B_b1 D_b1_b3
  replace B_b2:=zwl M11 B_b2 D_b2_b3
  replace B_b3:=zwb M11
  replace B_b4:=zwg M11 B_b4 D_b3_b4
  replace B_b5:=zwg M11 B_b5 D_b3_b5
  replace R0:=zwr M11 R0 N_b3
  replace HB:=zwr M11 HB N_b3
  replace HBY:=zwr M11 HBY N_b3
  replace EW:=zwe M11 EW O_b3
  clear HSS
  have HSS : Hid (w11_.heap[b0]? = some (.cells #[.slice ca sc.length cc,.slice ua su.length uc,.slice aa sa.length ac,.slice pa sp.length pc] 30 (0,0)) ∧ w11_.heap[b1]? = some (.cells #[I gen,.slice na' l.length nc',.bool false,I nc,I nt,I nk,I na,I no,I nn,.slice la pl.length lc,I se,I sn] 40 (0,0)) ∧ w11_.heap[b5]? = some (.cells #[I lc2,I lt,I le,I ln] 77 (0,0))):=⟨B_b0.out,B_b1.out,B_b5.out⟩
  refine held_norm (fun K hK=>?_); go_simp; refine hK _ ?_; clear hK K
  refine held_value 6 (by kernel_rfl) rfl rfl _ rfl HSS.out ?_
  refine held_norm (fun K hK=>?_); go_simp; refine hK _ ?_; clear hK K
  refine held_value 7 (by kernel_rfl) rfl rfl _ rfl HSS.out ?_
  refine held_norm (fun K hK=>?_); go_simp; refine hK _ ?_; clear hK K
  refine wpAnyH_done (by kernel_rfl) ?_ _
  clear HSS
  go_wp2
  have z0:=run_box (P:=Try.prog) 30 B_b2.out Try.underlying30 (by kernel_rfl)
  have z1:=run_box (P:=Try.prog) 40 B_b3.out Try.underlying40 (by kernel_rfl)
  refine bodyPost_ret (by simp [results,Try.results36,asAddr,z0,z1]; rfl) rfl ?_
  have hX : serveM ⟨sc,su,sa,sp⟩ ⟨gen,(b :: l),false,⟨nc,nt,⟨nk,na,no,nn⟩⟩,pl,⟨se,sn⟩⟩ = (⟨sc,su,sa,sp⟩,⟨gen,l,false,⟨nc,nt,⟨nk,na,no,nn⟩⟩,pl,⟨se,sn⟩⟩,ansB ⟨lc2,lt,⟨le,ln⟩⟩,0):=by
   show (if (readRq b).2 ≠ 0 then _ else if (lastAn sa (readRq b).1.client).2 = true ∧ (readRq b).1.token ≤ (lastAn sa (readRq b).1.client).1.token then (if (lastAn sa (readRq b).1.client).1.token = (readRq b).1.token then _ else _) else _) = _
   rw [HRR.out]
   simp only []
   rw [HL.out]
   rw [if_neg (by simp),if_pos ⟨rfl,Int.le_refl _⟩,if_pos rfl]
  have ht:=HT.out
  rw [hX] at ht
  exact ⟨_,rfl,EW.out,ht _ _ _ (Rd.widen (A:=B11) (tup4_rd R0.out.left (sv_rd (v:=⟨gen,l,false,⟨nc,nt,⟨nk,na,no,nn⟩⟩,pl,⟨se,sn⟩⟩) HB.out R0.out.right) (HBY.out)) (fun k _ h=>HK.out.2.2.2 k (I_B1.out k (I_B11.out k h))))⟩
 by_cases hq2 : LB = true ∧ rt < lt
 case pos =>
  obtain ⟨rfl,hlt⟩:=hq2
  have hb2 : (lt == rt) = false:=by simp; omega
  have hb1 : rt ≤ lt:=by omega
  go_wp2_with fail
  clear d1 l1
  refine held_drew (S:=fun w'=>w'.heap[b0]? = some (.cells #[.slice ca sc.length cc,.slice ua su.length uc,.slice aa sa.length ac,.slice pa sp.length pc] 30 (0,0)) ∧ w'.heap[b1]? = some (.cells #[I gen,.slice na' l.length nc',.bool false,I nc,I nt,I nk,I na,I no,I nn,.slice la pl.length lc,I se,I sn] 40 (0,0))) (by kernel_rfl) (fun wd ed _=>?_)
  replace B_b0:=zbx B_b0 ed
  replace B_b1:=zbx B_b1 ed
  replace B_b2:=zbx B_b2 ed
  replace B_b3:=zbx B_b3 ed
  replace B_b4:=zbx B_b4 ed
  replace B_b5:=zbx B_b5 ed
  replace R0:=zrx R0 ed
  replace HB:=zrx HB ed
  replace EW:=Lib.hid (EW.out.trans ed)
  have HSS : Hid (wd.heap[b0]? = some (.cells #[.slice ca sc.length cc,.slice ua su.length uc,.slice aa sa.length ac,.slice pa sp.length pc] 30 (0,0)) ∧ wd.heap[b1]? = some (.cells #[I gen,.slice na' l.length nc',.bool false,I nc,I nt,I nk,I na,I no,I nn,.slice la pl.length lc,I se,I sn] 40 (0,0))):=⟨B_b0.out,B_b1.out⟩
  refine held_loadW 0 rfl (by kernel_rfl) (by kernel_rfl) (by kernel_rfl) (fun _ _ _ _ h=>h) rfl 30 (.tmp 2) rfl b0 rfl (fun w' hS=>hS.1) Try.underlying30 (by kernel_rfl) HSS ?_
  refine held_norm (fun K hK=>?_); go_simp; refine hK _ ?_; clear hK K
  refine held_loadW 1 rfl (by kernel_rfl) (by kernel_rfl) (by kernel_rfl) (fun _ _ _ _ h=>h) rfl 40 (.tmp 3) rfl b1 rfl (fun w' hS=>hS.2) Try.underlying40 (by kernel_rfl) HSS ?_
  refine held_norm (fun K hK=>?_); go_simp; refine hK _ ?_; clear hK K
  refine held_storeW 2 (by kernel_rfl) rfl rfl 30 (.tmp 4) (.tmp 103) rfl b2 rfl [.slice ca sc.length cc,.slice ua su.length uc,.slice aa sa.length ac,.slice pa sp.length pc] (rfl) B_b2 rfl (by kernel_rfl) rfl (fun w10_ M10=>⟨?_,?_⟩)
  ·exact ⟨M10.out.old B_b0.out (Nat.ne_of_lt D_b0_b2.out),M10.out.old B_b1.out (Nat.ne_of_lt D_b1_b2.out)⟩
  replace B_b0:=zwl M10 B_b0 D_b0_b2
  replace B_b1:=zwl M10 B_b1 D_b1_b2
  replace B_b2:=zwb M10
  replace B_b3:=zwg M10 B_b3 D_b2_b3
  replace B_b4:=zwg M10 B_b4 D_b2_b4
  replace B_b5:=zwg M10 B_b5 D_b2_b5
  replace R0:=zwr M10 R0 N_b2
  replace HB:=zwr M10 HB N_b2
  replace EW:=zwe M10 EW O_b2
  clear HSS
  have HSS : Hid (w10_.heap[b0]? = some (.cells #[.slice ca sc.length cc,.slice ua su.length uc,.slice aa sa.length ac,.slice pa sp.length pc] 30 (0,0)) ∧ w10_.heap[b1]? = some (.cells #[I gen,.slice na' l.length nc',.bool false,I nc,I nt,I nk,I na,I no,I nn,.slice la pl.length lc,I se,I sn] 40 (0,0))):=⟨B_b0.out,B_b1.out⟩
  refine held_norm (fun K hK=>?_); go_simp; refine hK _ ?_; clear hK K
  refine held_storeW 3 (by kernel_rfl) rfl rfl 40 (.tmp 5) (.tmp 104) rfl b3 rfl [I gen,.slice na' l.length nc',.bool false,I nc,I nt,I nk,I na,I no,I nn,.slice la pl.length lc,I se,I sn] (rfl) B_b3 rfl (by kernel_rfl) rfl (fun w11_ M11=>⟨?_,?_⟩)
  ·exact ⟨M11.out.old B_b0.out (Nat.ne_of_lt D_b0_b3.out),M11.out.old B_b1.out (Nat.ne_of_lt D_b1_b3.out)⟩
  replace B_b0:=zwl M11 B_b0 D_b0_b3
  replace B_b1:=zwl M11 B_b1 D_b1_b3
  replace B_b2:=zwl M11 B_b2 D_b2_b3
  replace B_b3:=zwb M11
  replace B_b4:=zwg M11 B_b4 D_b3_b4
  replace B_b5:=zwg M11 B_b5 D_b3_b5
  replace R0:=zwr M11 R0 N_b3
  replace HB:=zwr M11 HB N_b3
  replace EW:=zwe M11 EW O_b3
  clear HSS
  have HSS : Hid (w11_.heap[b0]? = some (.cells #[.slice ca sc.length cc,.slice ua su.length uc,.slice aa sa.length ac,.slice pa sp.length pc] 30 (0,0)) ∧ w11_.heap[b1]? = some (.cells #[I gen,.slice na' l.length nc',.bool false,I nc,I nt,I nk,I na,I no,I nn,.slice la pl.length lc,I se,I sn] 40 (0,0))):=⟨B_b0.out,B_b1.out⟩
  refine held_norm (fun K hK=>?_); go_simp; refine hK _ ?_; clear hK K
  refine held_value 4 (by kernel_rfl) rfl rfl _ rfl HSS.out ?_
  refine held_norm (fun K hK=>?_); go_simp; refine hK _ ?_; clear hK K
  refine held_value 5 (by kernel_rfl) rfl rfl _ rfl HSS.out ?_
  refine held_norm (fun K hK=>?_); go_simp; refine hK _ ?_; clear hK K
  refine wpAnyH_done (by kernel_rfl) ?_ _
  clear HSS
  go_wp2
  have z0:=run_box (P:=Try.prog) 30 B_b2.out Try.underlying30 (by kernel_rfl)
  have z1:=run_box (P:=Try.prog) 40 B_b3.out Try.underlying40 (by kernel_rfl)
  refine bodyPost_ret (by simp [results,Try.results36,asAddr,z0,z1]; rfl) rfl ?_
  have hX : serveM ⟨sc,su,sa,sp⟩ ⟨gen,(b :: l),false,⟨nc,nt,⟨nk,na,no,nn⟩⟩,pl,⟨se,sn⟩⟩ = (⟨sc,su,sa,sp⟩,⟨gen,l,false,⟨nc,nt,⟨nk,na,no,nn⟩⟩,pl,⟨se,sn⟩⟩,[],0):=by
   show (if (readRq b).2 ≠ 0 then _ else if (lastAn sa (readRq b).1.client).2 = true ∧ (readRq b).1.token ≤ (lastAn sa (readRq b).1.client).1.token then (if (lastAn sa (readRq b).1.client).1.token = (readRq b).1.token then _ else _) else _) = _
   rw [HRR.out]
   simp only []
   rw [HL.out]
   rw [if_neg (by simp),if_pos ⟨rfl,by simp only []; omega⟩,if_neg (by simp only []; omega)]
  have ht:=HT.out
  rw [hX] at ht
  exact ⟨_,rfl,EW.out,ht _ _ _ (Rd.widen (A:=B11) (tup4_rd R0.out.left (sv_rd (v:=⟨gen,l,false,⟨nc,nt,⟨nk,na,no,nn⟩⟩,pl,⟨se,sn⟩⟩) HB.out R0.out.right) (Rd.all fun w=>bytes_nil w)) (fun k _ h=>HK.out.2.2.2 k (I_B1.out k (I_B11.out k h))))⟩
 have hcr : wrongCl ⟨rk,ra,ro,rn⟩ = 0:=by
  have q:=read_right (b:=b) (by rw [HRR.out])
  rw [HRR.out] at q
  exact (wrongRq_parts q).2
 have HCR:=Lib.hid hcr
 clear hcr
 have hsel : LB = false ∨ (LB = true ∧ lt < rt):=by
  cases LB
  ·exact .inl rfl
  ·exact .inr ⟨rfl,by have q1 : ¬ lt = rt:=fun h=>hq1 ⟨rfl,h⟩; have q2 : ¬ rt < lt:=fun h=>hq2 ⟨rfl,h⟩; omega⟩
 clear hq1 hq2
 obtain ⟨de,dn,hD⟩ : ∃ x y,(doCl (namesOf sc) ⟨rk,ra,ro,rn⟩).2 = ⟨x,y⟩:=⟨_,_,rfl⟩
 obtain ⟨PL,hPL⟩ : ∃ x,planCl (namesOf sc) ⟨rk,ra,ro,rn⟩ = x:=⟨_,rfl⟩
 have HD:=Lib.hid hD
 have HPL:=Lib.hid hPL
 clear hD hPL
 rcases hsel with rfl | ⟨rfl,hns⟩
 ·go_wp2_with fail
  clear d1 l1
  refine held_drew (S:=fun w'=>w'.heap[b4]? = some (.cells #[I rc,I rt,I rk,I ra,I ro,I rn] 35 (0,0))) (by kernel_rfl) (fun wd ed _=>?_)
  replace B_b0:=zbx B_b0 ed
  replace B_b1:=zbx B_b1 ed
  replace B_b2:=zbx B_b2 ed
  replace B_b3:=zbx B_b3 ed
  replace B_b4:=zbx B_b4 ed
  replace B_b5:=zbx B_b5 ed
  replace R0:=zrx R0 ed
  replace HB:=zrx HB ed
  replace EW:=Lib.hid (EW.out.trans ed)
  have HSS : Hid (wd.heap[b4]? = some (.cells #[I rc,I rt,I rk,I ra,I ro,I rn] 35 (0,0))):=B_b4.out
  refine held_loadW 0 rfl (by kernel_rfl) (by kernel_rfl) (by kernel_rfl) (fun _ _ _ _ h=>h) rfl 35 (.tmp 9) rfl b4 rfl (fun w' hS=>hS) Try.underlying35 (by kernel_rfl) HSS ?_
  refine held_norm (fun K hK=>?_); go_simp; refine hK _ ?_; clear hK K
  refine held_pure 1 rfl (by kernel_rfl) (by kernel_rfl) (by kernel_rfl) (fun _ _ _ _ h=>h) rfl HSS.out (fun K hK=>?_); go_simp; refine hK _ ?_; clear hK K
  refine held_store 2 (by kernel_rfl) rfl rfl 4 (.tmp 106) (.const (.bool true)) rfl b1 2 rfl [.bool true] (rfl) B_b1.out (Nat.le_of_ble_eq_true rfl) (by kernel_rfl) (ones_of rfl) #[I gen,.slice na' l.length nc',.bool true,I nc,I nt,I nk,I na,I no,I nn,.slice la pl.length lc,I se,I sn] ((splN_eq _ _ _ (Nat.le_of_ble_eq_true rfl)).trans rfl) (fun w10_ M10=>⟨?_,?_⟩)
  ·exact M10.out.old B_b4.out (Nat.ne_of_gt D_b1_b4.out)
  replace B_b0:=zwl M10 B_b0 D_b0_b1
  replace B_b1:=zwb M10
  replace B_b2:=zwg M10 B_b2 D_b1_b2
  replace B_b3:=zwg M10 B_b3 D_b1_b3
  replace B_b4:=zwg M10 B_b4 D_b1_b4
  replace B_b5:=zwg M10 B_b5 D_b1_b5
  replace R0:=zwr M10 R0 N_b1
  replace HB:=zwr M10 HB N_b1
  replace EW:=zwe M10 EW O_b1
  clear HSS
  have HSS : Hid (w10_.heap[b4]? = some (.cells #[I rc,I rt,I rk,I ra,I ro,I rn] 35 (0,0))):=B_b4.out
  refine held_norm (fun K hK=>?_); go_simp; refine hK _ ?_; clear hK K
  refine held_pure 3 rfl (by kernel_rfl) (by kernel_rfl) (by kernel_rfl) (fun _ _ _ _ h=>h) rfl HSS.out (fun K hK=>?_); go_simp; refine hK _ ?_; clear hK K
  refine held_store 4 (by kernel_rfl) rfl rfl 35 (.tmp 107) (.tmp 105) rfl b1 3 rfl [I rc,I rt,I rk,I ra,I ro,I rn] (rfl) B_b1.out (Nat.le_of_ble_eq_true rfl) (by kernel_rfl) (ones_of rfl) #[I gen,.slice na' l.length nc',.bool true,I rc,I rt,I rk,I ra,I ro,I rn,.slice la pl.length lc,I se,I sn] ((splN_eq _ _ _ (Nat.le_of_ble_eq_true rfl)).trans rfl) (fun w11_ M11=>⟨?_,?_⟩)
  ·exact M11.out.old B_b4.out (Nat.ne_of_gt D_b1_b4.out)
  replace B_b0:=zwl M11 B_b0 D_b0_b1
  replace B_b1:=zwb M11
  replace B_b2:=zwg M11 B_b2 D_b1_b2
  replace B_b3:=zwg M11 B_b3 D_b1_b3
  replace B_b4:=zwg M11 B_b4 D_b1_b4
  replace B_b5:=zwg M11 B_b5 D_b1_b5
  replace R0:=zwr M11 R0 N_b1
  replace HB:=zwr M11 HB N_b1
  replace EW:=zwe M11 EW O_b1
  clear HSS
  have HSS : Hid (w11_.heap[b4]? = some (.cells #[I rc,I rt,I rk,I ra,I ro,I rn] 35 (0,0))):=B_b4.out
  refine held_norm (fun K hK=>?_); go_simp; refine hK _ ?_; clear hK K
  refine wpAnyH_done (by kernel_rfl) ?_ _
  clear HSS
  have s0:=cell_of (i:=0) B_b0.out rfl
  have d2:=cell_of (i:=2) B_b4.out rfl
  have d3:=cell_of (i:=3) B_b4.out rfl
  have d4:=cell_of (i:=4) B_b4.out rfl
  have d5:=cell_of (i:=5) B_b4.out rfl
  go_wp2_with fail
  clear s0 d2 d3 d4 d5
  refine (rPlanW_any _ sc rk ra ro rn w11_ (st_iff.1 R0.out.left.out).1 HWO.out HCR.out).mono ?_
  rintro e w9 ⟨⟨uu,rfl,hu⟩,e9⟩
  replace hu : Has w11_.heap.size w9 uu (planCl (namesOf sc) ⟨rk,ra,ro,rn⟩):=hu
  rw [HPL.out] at hu
  obtain ⟨ua',uc',rfl⟩:=row_slice hu.writes
  rw [show (doCl (ofCells sc (sc.getD 0 0).toNat) ⟨rk,ra,ro,rn⟩).2 = ⟨de,dn⟩ from HD.out]
  have hsz : w.heap.size + 4 ≤ w11_.heap.size:=by have q:=(Array.getElem?_eq_some_iff.1 B_b3.out).1; have q2:=A_b3.out; omega
  have hz4 : b4 < w11_.heap.size:=(Array.getElem?_eq_some_iff.1 B_b4.out).1
  have hz5 : b5 < w11_.heap.size:=(Array.getElem?_eq_some_iff.1 B_b5.out).1
  have HPN:=Lib.hid (hu.rd.widen (B:=B11) (fun k _ h=>(HB11.out k).2 ⟨(HB1.out k).2 ⟨HK.out.2.1 k (by omega),by omega⟩,by omega⟩))
  clear hu hsz hz4 hz5
  replace B_b0:=zbx B_b0 e9
  replace B_b1:=zbx B_b1 e9
  replace B_b2:=zbx B_b2 e9
  replace B_b3:=zbx B_b3 e9
  replace B_b4:=zbx B_b4 e9
  replace B_b5:=zbx B_b5 e9
  replace R0:=zrx R0 e9
  replace HB:=zrx HB e9
  replace EW:=Lib.hid (EW.out.trans e9)
  go_wp2_with ((with_reducible refine zst (L:=[43,40,30,67]) ?_ ?_); exact rfl)
  unfold Hid
  refine wpList_storeP rfl 26 (.tmp 116) (.tmp 114) rfl b1 9 rfl [.slice ua' PL.length uc'] (rfl) B_b1 rfl (by kernel_rfl) rfl [I gen,.slice na' l.length nc',.bool true,I rc,I rt,I rk,I ra,I ro,I rn,.slice ua' PL.length uc',I se,I sn] rfl (fun w12_ M12=>?_)
  replace B_b0:=zwl M12 B_b0 D_b0_b1
  replace B_b1:=zwb M12
  replace B_b2:=zwg M12 B_b2 D_b1_b2
  replace B_b3:=zwg M12 B_b3 D_b1_b3
  replace B_b4:=zwg M12 B_b4 D_b1_b4
  replace B_b5:=zwg M12 B_b5 D_b1_b5
  replace R0:=zwr M12 R0 N_b1
  replace HB:=zwr M12 HB N_b1
  replace HPN:=zwr M12 HPN N_b1
  replace EW:=zwe M12 EW O_b1
  go_wp2_with ((with_reducible refine zst (L:=[43,40,30,67]) ?_ ?_); exact rfl)
  unfold Hid
  refine wpList_storeP rfl 38 (.tmp 117) (.tmp 115) rfl b1 10 rfl [I de,I dn] (rfl) B_b1 rfl (by kernel_rfl) rfl [I gen,.slice na' l.length nc',.bool true,I rc,I rt,I rk,I ra,I ro,I rn,.slice ua' PL.length uc',I de,I dn] rfl (fun w13_ M13=>?_)
  replace B_b0:=zwl M13 B_b0 D_b0_b1
  replace B_b1:=zwb M13
  replace B_b2:=zwg M13 B_b2 D_b1_b2
  replace B_b3:=zwg M13 B_b3 D_b1_b3
  replace B_b4:=zwg M13 B_b4 D_b1_b4
  replace B_b5:=zwg M13 B_b5 D_b1_b5
  replace R0:=zwr M13 R0 N_b1
  replace HB:=zwr M13 HB N_b1
  replace HPN:=zwr M13 HPN N_b1
  replace EW:=zwe M13 EW O_b1
  go_wp2_with fail
  refine held_drew (S:=fun w'=>w'.heap[b0]? = some (.cells #[.slice ca sc.length cc,.slice ua su.length uc,.slice aa sa.length ac,.slice pa sp.length pc] 30 (0,0)) ∧ w'.heap[b1]? = some (.cells #[I gen,.slice na' l.length nc',.bool true,I rc,I rt,I rk,I ra,I ro,I rn,.slice ua' PL.length uc',I de,I dn] 40 (0,0))) (by kernel_rfl) (fun wd ed _=>?_)
  replace B_b0:=zbx B_b0 ed
  replace B_b1:=zbx B_b1 ed
  replace B_b2:=zbx B_b2 ed
  replace B_b3:=zbx B_b3 ed
  replace B_b4:=zbx B_b4 ed
  replace B_b5:=zbx B_b5 ed
  replace R0:=zrx R0 ed
  replace HB:=zrx HB ed
  replace HPN:=zrx HPN ed
  replace EW:=Lib.hid (EW.out.trans ed)
  have HSS : Hid (wd.heap[b0]? = some (.cells #[.slice ca sc.length cc,.slice ua su.length uc,.slice aa sa.length ac,.slice pa sp.length pc] 30 (0,0)) ∧ wd.heap[b1]? = some (.cells #[I gen,.slice na' l.length nc',.bool true,I rc,I rt,I rk,I ra,I ro,I rn,.slice ua' PL.length uc',I de,I dn] 40 (0,0))):=⟨B_b0.out,B_b1.out⟩
  refine held_loadW 0 rfl (by kernel_rfl) (by kernel_rfl) (by kernel_rfl) (fun _ _ _ _ h=>h) rfl 30 (.tmp 2) rfl b0 rfl (fun w' hS=>hS.1) Try.underlying30 (by kernel_rfl) HSS ?_
  refine held_norm (fun K hK=>?_); go_simp; refine hK _ ?_; clear hK K
  refine held_loadW 1 rfl (by kernel_rfl) (by kernel_rfl) (by kernel_rfl) (fun _ _ _ _ h=>h) rfl 40 (.tmp 3) rfl b1 rfl (fun w' hS=>hS.2) Try.underlying40 (by kernel_rfl) HSS ?_
  refine held_norm (fun K hK=>?_); go_simp; refine hK _ ?_; clear hK K
  refine held_storeW 2 (by kernel_rfl) rfl rfl 30 (.tmp 4) (.tmp 118) rfl b2 rfl [.slice ca sc.length cc,.slice ua su.length uc,.slice aa sa.length ac,.slice pa sp.length pc] (rfl) B_b2 rfl (by kernel_rfl) rfl (fun w14_ M14=>⟨?_,?_⟩)
  ·exact ⟨M14.out.old B_b0.out (Nat.ne_of_lt D_b0_b2.out),M14.out.old B_b1.out (Nat.ne_of_lt D_b1_b2.out)⟩
  replace B_b0:=zwl M14 B_b0 D_b0_b2
  replace B_b1:=zwl M14 B_b1 D_b1_b2
  replace B_b2:=zwb M14
  replace B_b3:=zwg M14 B_b3 D_b2_b3
  replace B_b4:=zwg M14 B_b4 D_b2_b4
  replace B_b5:=zwg M14 B_b5 D_b2_b5
  replace R0:=zwr M14 R0 N_b2
  replace HB:=zwr M14 HB N_b2
  replace HPN:=zwr M14 HPN N_b2
  replace EW:=zwe M14 EW O_b2
  clear HSS
  have HSS : Hid (w14_.heap[b0]? = some (.cells #[.slice ca sc.length cc,.slice ua su.length uc,.slice aa sa.length ac,.slice pa sp.length pc] 30 (0,0)) ∧ w14_.heap[b1]? = some (.cells #[I gen,.slice na' l.length nc',.bool true,I rc,I rt,I rk,I ra,I ro,I rn,.slice ua' PL.length uc',I de,I dn] 40 (0,0))):=⟨B_b0.out,B_b1.out⟩
  refine held_norm (fun K hK=>?_); go_simp; refine hK _ ?_; clear hK K
  refine held_storeW 3 (by kernel_rfl) rfl rfl 40 (.tmp 5) (.tmp 119) rfl b3 rfl [I gen,.slice na' l.length nc',.bool true,I rc,I rt,I rk,I ra,I ro,I rn,.slice ua' PL.length uc',I de,I dn] (rfl) B_b3 rfl (by kernel_rfl) rfl (fun w15_ M15=>⟨?_,?_⟩)
  ·exact ⟨M15.out.old B_b0.out (Nat.ne_of_lt D_b0_b3.out),M15.out.old B_b1.out (Nat.ne_of_lt D_b1_b3.out)⟩
  replace B_b0:=zwl M15 B_b0 D_b0_b3
  replace B_b1:=zwl M15 B_b1 D_b1_b3
  replace B_b2:=zwl M15 B_b2 D_b2_b3
  replace B_b3:=zwb M15
  replace B_b4:=zwg M15 B_b4 D_b3_b4
  replace B_b5:=zwg M15 B_b5 D_b3_b5
  replace R0:=zwr M15 R0 N_b3
  replace HB:=zwr M15 HB N_b3
  replace HPN:=zwr M15 HPN N_b3
  replace EW:=zwe M15 EW O_b3
  clear HSS
  have HSS : Hid (w15_.heap[b0]? = some (.cells #[.slice ca sc.length cc,.slice ua su.length uc,.slice aa sa.length ac,.slice pa sp.length pc] 30 (0,0)) ∧ w15_.heap[b1]? = some (.cells #[I gen,.slice na' l.length nc',.bool true,I rc,I rt,I rk,I ra,I ro,I rn,.slice ua' PL.length uc',I de,I dn] 40 (0,0))):=⟨B_b0.out,B_b1.out⟩
  refine held_norm (fun K hK=>?_); go_simp; refine hK _ ?_; clear hK K
  refine held_value 4 (by kernel_rfl) rfl rfl _ rfl HSS.out ?_
  refine held_norm (fun K hK=>?_); go_simp; refine hK _ ?_; clear hK K
  refine held_value 5 (by kernel_rfl) rfl rfl _ rfl HSS.out ?_
  refine held_norm (fun K hK=>?_); go_simp; refine hK _ ?_; clear hK K
  refine wpAnyH_done (by kernel_rfl) ?_ _
  clear HSS
  go_wp2
  have z0:=run_box (P:=Try.prog) 30 B_b2.out Try.underlying30 (by kernel_rfl)
  have z1:=run_box (P:=Try.prog) 40 B_b3.out Try.underlying40 (by kernel_rfl)
  refine bodyPost_ret (by simp [results,Try.results36,asAddr,z0,z1]; rfl) rfl ?_
  have hX : serveM ⟨sc,su,sa,sp⟩ ⟨gen,(b :: l),false,⟨nc,nt,⟨nk,na,no,nn⟩⟩,pl,⟨se,sn⟩⟩ = (⟨sc,su,sa,sp⟩,⟨gen,l,true,⟨rc,rt,⟨rk,ra,ro,rn⟩⟩,PL,⟨de,dn⟩⟩,[],0):=by
   show (if (readRq b).2 ≠ 0 then _ else if (lastAn sa (readRq b).1.client).2 = true ∧ (readRq b).1.token ≤ (lastAn sa (readRq b).1.client).1.token then (if (lastAn sa (readRq b).1.client).1.token = (readRq b).1.token then _ else _) else _) = _
   rw [HRR.out]
   simp only []
   rw [HL.out]
   rw [if_neg (by simp),if_neg (fun h=>by cases h.1),HPL.out,HD.out]
  have ht:=HT.out
  rw [hX] at ht
  exact ⟨_,rfl,EW.out,ht _ _ _ (Rd.widen (A:=B11) (tup4_rd R0.out.left (sv_rd (v:=⟨gen,l,true,⟨rc,rt,⟨rk,ra,ro,rn⟩⟩,PL,⟨de,dn⟩⟩) HB.out HPN.out) (Rd.all fun w=>bytes_nil w)) (fun k _ h=>HK.out.2.2.2 k (I_B1.out k (I_B11.out k h))))⟩
 ·have hb2 : (lt == rt) = false:=by simp; omega
  have hb1 : ¬ rt ≤ lt:=by omega
  go_wp2_with fail
  clear d1 l1
  refine held_drew (S:=fun w'=>w'.heap[b4]? = some (.cells #[I rc,I rt,I rk,I ra,I ro,I rn] 35 (0,0))) (by kernel_rfl) (fun wd ed _=>?_)
  replace B_b0:=zbx B_b0 ed
  replace B_b1:=zbx B_b1 ed
  replace B_b2:=zbx B_b2 ed
  replace B_b3:=zbx B_b3 ed
  replace B_b4:=zbx B_b4 ed
  replace B_b5:=zbx B_b5 ed
  replace R0:=zrx R0 ed
  replace HB:=zrx HB ed
  replace EW:=Lib.hid (EW.out.trans ed)
  have HSS : Hid (wd.heap[b4]? = some (.cells #[I rc,I rt,I rk,I ra,I ro,I rn] 35 (0,0))):=B_b4.out
  refine held_loadW 0 rfl (by kernel_rfl) (by kernel_rfl) (by kernel_rfl) (fun _ _ _ _ h=>h) rfl 35 (.tmp 9) rfl b4 rfl (fun w' hS=>hS) Try.underlying35 (by kernel_rfl) HSS ?_
  refine held_norm (fun K hK=>?_); go_simp; refine hK _ ?_; clear hK K
  refine held_pure 1 rfl (by kernel_rfl) (by kernel_rfl) (by kernel_rfl) (fun _ _ _ _ h=>h) rfl HSS.out (fun K hK=>?_); go_simp; refine hK _ ?_; clear hK K
  refine held_store 2 (by kernel_rfl) rfl rfl 4 (.tmp 106) (.const (.bool true)) rfl b1 2 rfl [.bool true] (rfl) B_b1.out (Nat.le_of_ble_eq_true rfl) (by kernel_rfl) (ones_of rfl) #[I gen,.slice na' l.length nc',.bool true,I nc,I nt,I nk,I na,I no,I nn,.slice la pl.length lc,I se,I sn] ((splN_eq _ _ _ (Nat.le_of_ble_eq_true rfl)).trans rfl) (fun w10_ M10=>⟨?_,?_⟩)
  ·exact M10.out.old B_b4.out (Nat.ne_of_gt D_b1_b4.out)
  replace B_b0:=zwl M10 B_b0 D_b0_b1
  replace B_b1:=zwb M10
  replace B_b2:=zwg M10 B_b2 D_b1_b2
  replace B_b3:=zwg M10 B_b3 D_b1_b3
  replace B_b4:=zwg M10 B_b4 D_b1_b4
  replace B_b5:=zwg M10 B_b5 D_b1_b5
  replace R0:=zwr M10 R0 N_b1
  replace HB:=zwr M10 HB N_b1
  replace EW:=zwe M10 EW O_b1
  clear HSS
  have HSS : Hid (w10_.heap[b4]? = some (.cells #[I rc,I rt,I rk,I ra,I ro,I rn] 35 (0,0))):=B_b4.out
  refine held_norm (fun K hK=>?_); go_simp; refine hK _ ?_; clear hK K
  refine held_pure 3 rfl (by kernel_rfl) (by kernel_rfl) (by kernel_rfl) (fun _ _ _ _ h=>h) rfl HSS.out (fun K hK=>?_); go_simp; refine hK _ ?_; clear hK K
  refine held_store 4 (by kernel_rfl) rfl rfl 35 (.tmp 107) (.tmp 105) rfl b1 3 rfl [I rc,I rt,I rk,I ra,I ro,I rn] (rfl) B_b1.out (Nat.le_of_ble_eq_true rfl) (by kernel_rfl) (ones_of rfl) #[I gen,.slice na' l.length nc',.bool true,I rc,I rt,I rk,I ra,I ro,I rn,.slice la pl.length lc,I se,I sn] ((splN_eq _ _ _ (Nat.le_of_ble_eq_true rfl)).trans rfl) (fun w11_ M11=>⟨?_,?_⟩)
  ·exact M11.out.old B_b4.out (Nat.ne_of_gt D_b1_b4.out)
  replace B_b0:=zwl M11 B_b0 D_b0_b1
  replace B_b1:=zwb M11
  replace B_b2:=zwg M11 B_b2 D_b1_b2
  replace B_b3:=zwg M11 B_b3 D_b1_b3
  replace B_b4:=zwg M11 B_b4 D_b1_b4
  replace B_b5:=zwg M11 B_b5 D_b1_b5
  replace R0:=zwr M11 R0 N_b1
  replace HB:=zwr M11 HB N_b1
  replace EW:=zwe M11 EW O_b1
  clear HSS
  have HSS : Hid (w11_.heap[b4]? = some (.cells #[I rc,I rt,I rk,I ra,I ro,I rn] 35 (0,0))):=B_b4.out
  refine held_norm (fun K hK=>?_); go_simp; refine hK _ ?_; clear hK K
  refine wpAnyH_done (by kernel_rfl) ?_ _
  clear HSS
  have s0:=cell_of (i:=0) B_b0.out rfl
  have d2:=cell_of (i:=2) B_b4.out rfl
  have d3:=cell_of (i:=3) B_b4.out rfl
  have d4:=cell_of (i:=4) B_b4.out rfl
  have d5:=cell_of (i:=5) B_b4.out rfl
  go_wp2_with fail
  clear s0 d2 d3 d4 d5
  refine (rPlanW_any _ sc rk ra ro rn w11_ (st_iff.1 R0.out.left.out).1 HWO.out HCR.out).mono ?_
  rintro e w9 ⟨⟨uu,rfl,hu⟩,e9⟩
  replace hu : Has w11_.heap.size w9 uu (planCl (namesOf sc) ⟨rk,ra,ro,rn⟩):=hu
  rw [HPL.out] at hu
  obtain ⟨ua',uc',rfl⟩:=row_slice hu.writes
  rw [show (doCl (ofCells sc (sc.getD 0 0).toNat) ⟨rk,ra,ro,rn⟩).2 = ⟨de,dn⟩ from HD.out]
  have hsz : w.heap.size + 4 ≤ w11_.heap.size:=by have q:=(Array.getElem?_eq_some_iff.1 B_b3.out).1; have q2:=A_b3.out; omega
  have hz4 : b4 < w11_.heap.size:=(Array.getElem?_eq_some_iff.1 B_b4.out).1
  have hz5 : b5 < w11_.heap.size:=(Array.getElem?_eq_some_iff.1 B_b5.out).1
  have HPN:=Lib.hid (hu.rd.widen (B:=B11) (fun k _ h=>(HB11.out k).2 ⟨(HB1.out k).2 ⟨HK.out.2.1 k (by omega),by omega⟩,by omega⟩))
  clear hu hsz hz4 hz5
  replace B_b0:=zbx B_b0 e9
  replace B_b1:=zbx B_b1 e9
  replace B_b2:=zbx B_b2 e9
  replace B_b3:=zbx B_b3 e9
  replace B_b4:=zbx B_b4 e9
  replace B_b5:=zbx B_b5 e9
  replace R0:=zrx R0 e9
  replace HB:=zrx HB e9
  replace EW:=Lib.hid (EW.out.trans e9)
  go_wp2_with ((with_reducible refine zst (L:=[43,40,30,67]) ?_ ?_); exact rfl)
  unfold Hid
  refine wpList_storeP rfl 26 (.tmp 116) (.tmp 114) rfl b1 9 rfl [.slice ua' PL.length uc'] (rfl) B_b1 rfl (by kernel_rfl) rfl [I gen,.slice na' l.length nc',.bool true,I rc,I rt,I rk,I ra,I ro,I rn,.slice ua' PL.length uc',I se,I sn] rfl (fun w12_ M12=>?_)
  replace B_b0:=zwl M12 B_b0 D_b0_b1
  replace B_b1:=zwb M12
  replace B_b2:=zwg M12 B_b2 D_b1_b2
  replace B_b3:=zwg M12 B_b3 D_b1_b3
  replace B_b4:=zwg M12 B_b4 D_b1_b4
  replace B_b5:=zwg M12 B_b5 D_b1_b5
  replace R0:=zwr M12 R0 N_b1
  replace HB:=zwr M12 HB N_b1
  replace HPN:=zwr M12 HPN N_b1
  replace EW:=zwe M12 EW O_b1
  go_wp2_with ((with_reducible refine zst (L:=[43,40,30,67]) ?_ ?_); exact rfl)
  unfold Hid
  refine wpList_storeP rfl 38 (.tmp 117) (.tmp 115) rfl b1 10 rfl [I de,I dn] (rfl) B_b1 rfl (by kernel_rfl) rfl [I gen,.slice na' l.length nc',.bool true,I rc,I rt,I rk,I ra,I ro,I rn,.slice ua' PL.length uc',I de,I dn] rfl (fun w13_ M13=>?_)
  replace B_b0:=zwl M13 B_b0 D_b0_b1
  replace B_b1:=zwb M13
  replace B_b2:=zwg M13 B_b2 D_b1_b2
  replace B_b3:=zwg M13 B_b3 D_b1_b3
  replace B_b4:=zwg M13 B_b4 D_b1_b4
  replace B_b5:=zwg M13 B_b5 D_b1_b5
  replace R0:=zwr M13 R0 N_b1
  replace HB:=zwr M13 HB N_b1
  replace HPN:=zwr M13 HPN N_b1
  replace EW:=zwe M13 EW O_b1
  go_wp2_with fail
  refine held_drew (S:=fun w'=>w'.heap[b0]? = some (.cells #[.slice ca sc.length cc,.slice ua su.length uc,.slice aa sa.length ac,.slice pa sp.length pc] 30 (0,0)) ∧ w'.heap[b1]? = some (.cells #[I gen,.slice na' l.length nc',.bool true,I rc,I rt,I rk,I ra,I ro,I rn,.slice ua' PL.length uc',I de,I dn] 40 (0,0))) (by kernel_rfl) (fun wd ed _=>?_)
  replace B_b0:=zbx B_b0 ed
  replace B_b1:=zbx B_b1 ed
  replace B_b2:=zbx B_b2 ed
  replace B_b3:=zbx B_b3 ed
  replace B_b4:=zbx B_b4 ed
  replace B_b5:=zbx B_b5 ed
  replace R0:=zrx R0 ed
  replace HB:=zrx HB ed
  replace HPN:=zrx HPN ed
  replace EW:=Lib.hid (EW.out.trans ed)
  have HSS : Hid (wd.heap[b0]? = some (.cells #[.slice ca sc.length cc,.slice ua su.length uc,.slice aa sa.length ac,.slice pa sp.length pc] 30 (0,0)) ∧ wd.heap[b1]? = some (.cells #[I gen,.slice na' l.length nc',.bool true,I rc,I rt,I rk,I ra,I ro,I rn,.slice ua' PL.length uc',I de,I dn] 40 (0,0))):=⟨B_b0.out,B_b1.out⟩
  refine held_loadW 0 rfl (by kernel_rfl) (by kernel_rfl) (by kernel_rfl) (fun _ _ _ _ h=>h) rfl 30 (.tmp 2) rfl b0 rfl (fun w' hS=>hS.1) Try.underlying30 (by kernel_rfl) HSS ?_
  refine held_norm (fun K hK=>?_); go_simp; refine hK _ ?_; clear hK K
  refine held_loadW 1 rfl (by kernel_rfl) (by kernel_rfl) (by kernel_rfl) (fun _ _ _ _ h=>h) rfl 40 (.tmp 3) rfl b1 rfl (fun w' hS=>hS.2) Try.underlying40 (by kernel_rfl) HSS ?_
  refine held_norm (fun K hK=>?_); go_simp; refine hK _ ?_; clear hK K
  refine held_storeW 2 (by kernel_rfl) rfl rfl 30 (.tmp 4) (.tmp 118) rfl b2 rfl [.slice ca sc.length cc,.slice ua su.length uc,.slice aa sa.length ac,.slice pa sp.length pc] (rfl) B_b2 rfl (by kernel_rfl) rfl (fun w14_ M14=>⟨?_,?_⟩)
  ·exact ⟨M14.out.old B_b0.out (Nat.ne_of_lt D_b0_b2.out),M14.out.old B_b1.out (Nat.ne_of_lt D_b1_b2.out)⟩
  replace B_b0:=zwl M14 B_b0 D_b0_b2
  replace B_b1:=zwl M14 B_b1 D_b1_b2
  replace B_b2:=zwb M14
  replace B_b3:=zwg M14 B_b3 D_b2_b3
  replace B_b4:=zwg M14 B_b4 D_b2_b4
  replace B_b5:=zwg M14 B_b5 D_b2_b5
  replace R0:=zwr M14 R0 N_b2
  replace HB:=zwr M14 HB N_b2
  replace HPN:=zwr M14 HPN N_b2
  replace EW:=zwe M14 EW O_b2
  clear HSS
  have HSS : Hid (w14_.heap[b0]? = some (.cells #[.slice ca sc.length cc,.slice ua su.length uc,.slice aa sa.length ac,.slice pa sp.length pc] 30 (0,0)) ∧ w14_.heap[b1]? = some (.cells #[I gen,.slice na' l.length nc',.bool true,I rc,I rt,I rk,I ra,I ro,I rn,.slice ua' PL.length uc',I de,I dn] 40 (0,0))):=⟨B_b0.out,B_b1.out⟩
  refine held_norm (fun K hK=>?_); go_simp; refine hK _ ?_; clear hK K
  refine held_storeW 3 (by kernel_rfl) rfl rfl 40 (.tmp 5) (.tmp 119) rfl b3 rfl [I gen,.slice na' l.length nc',.bool true,I rc,I rt,I rk,I ra,I ro,I rn,.slice ua' PL.length uc',I de,I dn] (rfl) B_b3 rfl (by kernel_rfl) rfl (fun w15_ M15=>⟨?_,?_⟩)
  ·exact ⟨M15.out.old B_b0.out (Nat.ne_of_lt D_b0_b3.out),M15.out.old B_b1.out (Nat.ne_of_lt D_b1_b3.out)⟩
  replace B_b0:=zwl M15 B_b0 D_b0_b3
  replace B_b1:=zwl M15 B_b1 D_b1_b3
  replace B_b2:=zwl M15 B_b2 D_b2_b3
  replace B_b3:=zwb M15
  replace B_b4:=zwg M15 B_b4 D_b3_b4
  replace B_b5:=zwg M15 B_b5 D_b3_b5
  replace R0:=zwr M15 R0 N_b3
  replace HB:=zwr M15 HB N_b3
  replace HPN:=zwr M15 HPN N_b3
  replace EW:=zwe M15 EW O_b3
  clear HSS
  have HSS : Hid (w15_.heap[b0]? = some (.cells #[.slice ca sc.length cc,.slice ua su.length uc,.slice aa sa.length ac,.slice pa sp.length pc] 30 (0,0)) ∧ w15_.heap[b1]? = some (.cells #[I gen,.slice na' l.length nc',.bool true,I rc,I rt,I rk,I ra,I ro,I rn,.slice ua' PL.length uc',I de,I dn] 40 (0,0))):=⟨B_b0.out,B_b1.out⟩
  refine held_norm (fun K hK=>?_); go_simp; refine hK _ ?_; clear hK K
  refine held_value 4 (by kernel_rfl) rfl rfl _ rfl HSS.out ?_
  refine held_norm (fun K hK=>?_); go_simp; refine hK _ ?_; clear hK K
  refine held_value 5 (by kernel_rfl) rfl rfl _ rfl HSS.out ?_
  refine held_norm (fun K hK=>?_); go_simp; refine hK _ ?_; clear hK K
  refine wpAnyH_done (by kernel_rfl) ?_ _
  clear HSS
  go_wp2
  have z0:=run_box (P:=Try.prog) 30 B_b2.out Try.underlying30 (by kernel_rfl)
  have z1:=run_box (P:=Try.prog) 40 B_b3.out Try.underlying40 (by kernel_rfl)
  refine bodyPost_ret (by simp [results,Try.results36,asAddr,z0,z1]; rfl) rfl ?_
  have hX : serveM ⟨sc,su,sa,sp⟩ ⟨gen,(b :: l),false,⟨nc,nt,⟨nk,na,no,nn⟩⟩,pl,⟨se,sn⟩⟩ = (⟨sc,su,sa,sp⟩,⟨gen,l,true,⟨rc,rt,⟨rk,ra,ro,rn⟩⟩,PL,⟨de,dn⟩⟩,[],0):=by
   show (if (readRq b).2 ≠ 0 then _ else if (lastAn sa (readRq b).1.client).2 = true ∧ (readRq b).1.token ≤ (lastAn sa (readRq b).1.client).1.token then (if (lastAn sa (readRq b).1.client).1.token = (readRq b).1.token then _ else _) else _) = _
   rw [HRR.out]
   simp only []
   rw [HL.out]
   rw [if_neg (by simp),if_neg (fun h=>by have q:=h.2; simp only [] at q; omega),HPL.out,HD.out]
  have ht:=HT.out
  rw [hX] at ht
  exact ⟨_,rfl,EW.out,ht _ _ _ (Rd.widen (A:=B11) (tup4_rd R0.out.left (sv_rd (v:=⟨gen,l,true,⟨rc,rt,⟨rk,ra,ro,rn⟩⟩,PL,⟨de,dn⟩⟩) HB.out HPN.out) (Rd.all fun w=>bytes_nil w)) (fun k _ h=>HK.out.2.2.2 k (I_B1.out k (I_B11.out k h))))⟩

end Go.Proofs.Ytdmipnnfoolelad

namespace Go.Proofs.Ytdmipnnfoolelad
open Go.RowKit Go.Mk

/-- The cells of a client, of a server. -/
abbrev cells6c (c : Cn) (calls box got : Value) : List Value:=[calls,I c.at_,.bool c.sent,I c.gen,box,got]
abbrev cells12 (v : Sv) (box plan : Value) : List Value:=[I v.gen,box,.bool v.busy,I v.now.client,I v.now.token,I v.now.call.kind,I v.now.call.name,I v.now.call.other,I v.now.call.n,plan,I v.says.err,I v.says.n]

theorem refClientGo_keeps (c : Cn) (calls box got : Value) (me gen2 : Int) (up : Bool) (w : World) (A : Nat → Prop)
  (hc : Rd A (fun w=>RowOf 4 elCl w calls c.calls) w) (hb : Rd A (fun w=>RowOf 1 elBs w box c.box) w) (hg : Rd A (fun w=>RowOf 2 elRp w got c.got) w) (h0 : 0 ≤ c.at_) (h1 : c.at_ ≤ 1000000) (hgl : c.got.length ≤ 1000) :
  Keeps Try.prog 33 #[.agg (cells6c c calls box got).toArray,I me,I gen2,.bool up] w A (fun r w'=>Tup3 elCn (goCn c me gen2 up).1 (goCn c me gen2 up).2.1 (goCn c me gen2 up).2.2 r w'):=by
 obtain ⟨cl,at_,sent,gen,bl,gl⟩:=c
 cases bl with
 | nil=>exact refClientGo_idle cl at_ sent gen gl calls box got me gen2 up w A hc hb hg h0
 | cons b l=>exact refClientGo_hear cl at_ sent gen b l gl calls box got me gen2 up w A hc hb hg h0 h1 hgl

theorem refServe_keeps (s : St) (v : Sv) (c u a p box plan : Value) (w : World) (A : Nat → Prop) (hs : Rd A (fun w=>elSt w [c,u,a,p] s) w) (hb : Rd A (fun w=>RowOf 1 elBs w box v.box) w) (hp : Rd A (fun w=>Writes w plan v.plan) w)
  (h1 : s.cells.length * 8 ≤ 140737488355328) (h2 : (1 + s.undo.length) * 16 ≤ 140737488355328) (h3 : s.answers.length ≤ 1000) (h4 : s.past.length ≤ 1000000) (hw : v.busy = false → Weak s.cells) :
  Keeps Try.prog 36 #[.agg #[c,u,a,p],.agg (cells12 v box plan).toArray] w A (fun r w'=>Tup4 (serveM s v).1 (serveM s v).2.1 (serveM s v).2.2.1 (serveM s v).2.2.2 r w'):=by
 obtain ⟨sc,su,sa,sp⟩:=s
 obtain ⟨gen,bl,busy,⟨nc,nt,⟨nk,na,no,nn⟩⟩,pl,⟨se,sn⟩⟩:=v
 cases busy with
 | true =>
  cases pl with
  | nil=>exact refServe_done sc su sa sp gen bl nc nt nk na no nn se sn c u a p box plan w A hs hb hp h3 h4
  | cons q l=>exact refServe_write sc su sa sp gen bl nc nt nk na no nn se sn q.1 q.2 l c u a p box plan w A hs hb hp h1 h2
 | false =>
  cases bl with
  | nil=>exact refServe_wait sc su sa sp gen nc nt nk na no nn se sn pl c u a p box plan w A hs hb hp
  | cons b l=>exact refServe_take sc su sa sp gen nc nt nk na no nn se sn b l pl c u a p box plan w A hs hb hp (hw rfl)

end Go.Proofs.Ytdmipnnfoolelad

namespace Go.Proofs.Ytdmipnnfoolelad
open Go.RowKit Go.Mk

/-- A server's box and plan in memory of their own. -/
structure OwnSv (base : Nat) (w : World) (box plan : Value) (v : Sv) : Prop where
 box : OwnBox base w box v.box
 plan : w.ownsRow base 72 2 plan v.plan.length (cells2 v.plan)
theorem OwnSv.ext {base : Nat} {w w' : World} {box plan : Value} {v : Sv} (h : OwnSv base w box plan v) (he : Ext w w') : OwnSv base w' box plan v:=⟨h.box.ext he,owns_ext h.plan he⟩
theorem OwnSv.low {base b2 : Nat} {w : World} {box plan : Value} {v : Sv} (h : OwnSv base w box plan v) (hb : b2 ≤ base) : OwnSv b2 w box plan v:=⟨h.box.low hb,owns_base h.plan hb⟩
theorem OwnBox.slice {base : Nat} {w : World} {u : Value} {bl : List (List UInt8)} (h : OwnBox base w u bl) : ∃ ao cap,u = .slice ao bl.length cap:=by
 obtain ⟨evs,h1,_⟩:=h
 exact own_slice h1

/-- How much a server may hold. -/
def SmallV (v : Sv) : Prop:=v.box.length ≤ 1000 ∧ (∀ b ∈ v.box,b.length ≤ 140737488355328) ∧ v.plan.length ≤ 1000

set_option maxRecDepth 100000 in
set_option maxHeartbeats 2000000 in
theorem OwnV_any (v : Sv) (box plan : Value) (w : World) (hb : RowOf 1 elBs w box v.box) (hp : Writes w plan v.plan) (hs : SmallV v) :
  Gives Try.prog 25 #[.agg (cells12 v box plan).toArray] w fun r w'=>∃ box' plan',r = .agg (cells12 v box' plan').toArray ∧ OwnSv w.heap.size w' box' plan' v ∧ ∃ g,box' = .slice (some ⟨g,0,none⟩) v.box.length v.box.length:=by
 unfold Gives
 have HS:=Lib.hid hs
 clear hs
 obtain ⟨xa,xc,rfl⟩:=rowOf_slice hb
 obtain ⟨la,lc,rfl⟩:=row_slice hp
 have HB:=Lib.hid hb
 have HP:=Lib.hid hp
 clear hb hp
 have EW:=Lib.hid (Ext.refl w)
 go_enter Try.func25,Try.ntmps25
 go_wp2_with ((with_reducible refine zst (L:=[43,40,30,67]) ?_ ?_); exact rfl)
 unfold Hid
 refine wpList_boxB rfl 40 (.tmp 0) rfl #[I v.gen,.slice xa v.box.length xc,.bool v.busy,I v.now.client,I v.now.token,I v.now.call.kind,I v.now.call.name,I v.now.call.other,I v.now.call.n,.slice la v.plan.length lc,I v.says.err,I v.says.n] rfl (fun b0 w1_ M1=>?_)
 have B_b0:=zmb M1
 replace EW:=zet EW M1
 have O_b0 : Hid (w.heap.size ≤ b0):=by unfold Hid; have q:=M1.out.at_; omega
 go_wp2_with ((with_reducible refine zst (L:=[43,40,30,67]) ?_ ?_); exact rfl)
 unfold Hid
 refine wpList_allocB rfl 40 #[I 0,.slice none 0 0,.bool false,I 0,I 0,I 0,I 0,I 0,I 0,.slice none 0 0,I 0,I 0] (by kernel_rfl) (fun b1 w2_ M2=>?_)
 have D_b0_b1:=zld B_b0 M2
 replace B_b0:=zmo M2 B_b0
 have B_b1:=zmb M2
 replace EW:=zet EW M2
 have O_b1 : Hid (w.heap.size ≤ b1):=by unfold Hid; have q:=D_b0_b1.out; have q2:=O_b0.out; omega
 have c1:=cell_of (i:=1) B_b0.out rfl
 go_wp2_with fail
 clear c1
 refine (ownBox_any _ v.box w2_ (HB.out.ext monoBs EW.out) (by have:=HS.out.1; omega) HS.out.2.1).to fun r w2 e2 hr=>?_
 obtain ⟨hr,yg,rfl⟩:=hr
 have OB:=Lib.hid (hr.low (b2:=w.heap.size) EW.out.size)
 clear hr
 replace B_b0:=zbx B_b0 e2
 replace B_b1:=zbx B_b1 e2
 replace EW:=Lib.hid (EW.out.trans e2)
 clear e2
 go_wp2_with ((with_reducible refine zst (L:=[43,40,30,67]) ?_ ?_); exact rfl)
 unfold Hid
 refine wpList_storeP rfl 31 (.tmp 6) (.tmp 5) rfl b0 1 rfl [.slice (some ⟨yg,0,none⟩) v.box.length v.box.length] (rfl) B_b0 rfl (by kernel_rfl) rfl [I v.gen,.slice (some ⟨yg,0,none⟩) v.box.length v.box.length,.bool v.busy,I v.now.client,I v.now.token,I v.now.call.kind,I v.now.call.name,I v.now.call.other,I v.now.call.n,.slice la v.plan.length lc,I v.says.err,I v.says.n] rfl (fun w3_ M3=>?_)
 replace OB:=Lib.hid (OB.out.kept M3.out.grown B_b0.out (by decide) (by decide))
 replace B_b0:=zwb M3
 replace B_b1:=zwg M3 B_b1 D_b0_b1
 replace EW:=zwe M3 EW O_b0
 have c9:=cell_of (i:=9) B_b0.out rfl
 go_wp2_with fail
 clear c9
 refine (own_writesV _ v.plan w3_ (HP.out.ext EW.out) (by have:=HS.out.2.2; omega)).to fun r w4 e4 hr=>?_
 obtain ⟨za,zc,rfl⟩:=own_slice hr
 have OP:=Lib.hid (owns_base hr (b2:=w.heap.size) EW.out.size)
 clear hr
 replace B_b0:=zbx B_b0 e4
 replace B_b1:=zbx B_b1 e4
 replace OB:=Lib.hid (OB.out.ext e4)
 replace EW:=Lib.hid (EW.out.trans e4)
 clear e4
 go_wp2_with ((with_reducible refine zst (L:=[43,40,30,67]) ?_ ?_); exact rfl)
 unfold Hid
 refine wpList_storeP rfl 26 (.tmp 10) (.tmp 9) rfl b0 9 rfl [.slice za v.plan.length zc] (rfl) B_b0 rfl (by kernel_rfl) rfl [I v.gen,.slice (some ⟨yg,0,none⟩) v.box.length v.box.length,.bool v.busy,I v.now.client,I v.now.token,I v.now.call.kind,I v.now.call.name,I v.now.call.other,I v.now.call.n,.slice za v.plan.length zc,I v.says.err,I v.says.n] rfl (fun w4_ M4=>?_)
 replace OB:=Lib.hid (OB.out.kept M4.out.grown B_b0.out (by decide) (by decide))
 replace OP:=Lib.hid (OP.out.kept M4.out.grown (.inr (own_ne OP.out B_b0.out (by decide))))
 replace B_b0:=zwb M4
 replace B_b1:=zwg M4 B_b1 D_b0_b1
 replace EW:=zwe M4 EW O_b0
 go_wp2_with ((with_reducible refine zst (L:=[43,40,30,67]) ?_ ?_); exact rfl)
 unfold Hid
 refine wpList_loadW rfl 40 (.tmp 1) rfl b0 rfl B_b0 Try.underlying40 (by kernel_rfl) (fun v11 H_v11=>?_)
 go_wp2_with ((with_reducible refine zst (L:=[43,40,30,67]) ?_ ?_); exact rfl)
 unfold Hid
 refine wpList_storeW rfl 40 (.tmp 2) (.tmp 11) rfl b1 rfl _ (zcv H_v11) B_b1 rfl (by kernel_rfl) rfl (fun w5_ M5=>?_)
 replace OB:=Lib.hid (OB.out.kept M5.out.grown B_b1.out (by decide) (by decide))
 replace OP:=Lib.hid (OP.out.kept M5.out.grown (.inr (own_ne OP.out B_b1.out (by decide))))
 replace B_b0:=zwl M5 B_b0 D_b0_b1
 replace B_b1:=zwb M5
 replace EW:=zwe M5 EW O_b1
 go_wp2
 have z0:=run_box (P:=Try.prog) 40 B_b1.out Try.underlying40 (by kernel_rfl)
 refine bodyPost_ret (by simp [results,Try.results25,asAddr,z0,Act.put]; rfl) rfl ?_
 exact ⟨_,rfl,EW.out,_,_,rfl,⟨OB.out,OP.out⟩,_,rfl⟩

end Go.Proofs.Ytdmipnnfoolelad

namespace Go.Proofs.Ytdmipnnfoolelad
open Go.RowKit Go.Mk

/-- What is in memory of its own is described wherever no box lies. -/
theorem OwnSv.rd {base : Nat} {w : World} {box plan : Value} {v : Sv} {B : Nat → Prop} (h : OwnSv base w box plan v) (hB : ∀ g,base ≤ g → (∀ cs t,w.heap[g]? = some (.cells cs t (0,0)) → t = 80 ∨ t = 5 ∨ t = 72) → B g) :
  Rd B (fun w=>RowOf 1 elBs w box v.box) w ∧ Rd B (fun w=>Writes w plan v.plan) w:=by
 refine ⟨h.box.rd fun g hg ht=>hB g hg fun cs t hc=>?_,rd_owns_in h.plan fun g hg=>hB g (h.plan.lt g hg).1 fun cs t hc=>?_⟩
 ·rcases ht cs t hc with e | e
  ·exact .inl e
  ·exact .inr (.inl e)
 ·by_cases hne : (72 : Nat) = t
  ·exact .inr (.inr hne.symm)
  ·exact absurd hg (own_ne h.plan hc hne)
theorem OwnBox.snoc {base : Nat} {w : World} {u ev : Value} {bl : List (List UInt8)} {b : List UInt8} {evs : List Value} (h : ∀ (i : Nat) (b : List UInt8),bl[i]? = some b → ∃ ev,evs[i]? = some ev ∧ w.ownsRow base 5 1 ev b.length (b.map U)) (hl : evs.length = bl.length) (hu : w.ownsRow base 80 1 u (bl.length + 1) (evs ++ [ev])) (he : w.ownsRow base 5 1 ev b.length (b.map U)) : OwnBox base w u (bl ++ [b]):=by
 refine ⟨evs ++ [ev],by rw [List.length_append]; exact hu,fun i x hx=>?_⟩
 by_cases hi : i < bl.length
 ·rw [List.getElem?_append_left hi] at hx
  obtain ⟨e2,h3,h4⟩:=h i x hx
  exact ⟨e2,by rw [List.getElem?_append_left (by omega)]; exact h3,h4⟩
 ·rw [List.getElem?_append_right (by omega)] at hx
  have h0 : i - bl.length = 0:=by
   have:=(List.getElem?_eq_some_iff.1 hx).1
   simp at this
   omega
  rw [h0] at hx
  simp at hx
  subst hx
  exact ⟨ev,by rw [List.getElem?_append_right (by omega),show i - evs.length = 0 by omega]; rfl,he⟩
theorem OwnBox.list {base : Nat} {w : World} {u : Value} {bl : List (List UInt8)} (h : OwnBox base w u bl) : ∃ evs : List Value,evs.length = bl.length ∧ w.ownsRow base 80 1 u bl.length evs ∧ ∀ (i : Nat) (b : List UInt8),bl[i]? = some b → ∃ ev,evs[i]? = some ev ∧ w.ownsRow base 5 1 ev b.length (b.map U):=by
 obtain ⟨evs,h1,h2⟩:=h
 exact ⟨evs,by have:=h1.1; simpa using this,h1,h2⟩
end Go.Proofs.Ytdmipnnfoolelad

namespace Go.Proofs.Ytdmipnnfoolelad
open Go.RowKit Go.Mk

theorem Try.infoCallG : (Try.prog.info? 33).map (fun i=>(i.zero,i.size,i.bytes)) = some (some (.agg #[.int .i64 0,.int .i64 0,.int .i64 0,.int .i64 0]),4,32):=by kernel_rfl
theorem Try.infoReplyG : (Try.prog.info? 38).map (fun i=>(i.zero,i.size,i.bytes)) = some (some (.agg #[.int .i64 0,.int .i64 0]),2,16):=by kernel_rfl
def cellsCl (l : List Cl) : List Value:=l.flatMap fun x=>[I x.kind,I x.name,I x.other,I x.n]
theorem length_cellsCl (l : List Cl) : (cellsCl l).length = l.length * 4:=by
 unfold cellsCl
 induction l with
 | nil=>rfl
 | cons p l ih=>simp [List.flatMap_cons,ih]; omega
theorem cellsCl_one (l : List Cl) : ∀ u ∈ cellsCl l,u.oneCell' = true:=by
 intro u hu
 unfold cellsCl at hu
 rw [List.mem_flatMap] at hu
 obtain ⟨p,_,hp⟩:=hu
 simp at hp
 rcases hp with rfl | rfl | rfl | rfl <;> rfl
theorem rowOf_cls {w : World} {v : Value} {l : List Cl} : RowOf 4 elCl w v l ↔ Row w 4 v l.length (cellsCl l):=rowOf_flat (f:=fun (x : Cl)=>[I x.kind,I x.name,I x.other,I x.n]) (fun _=>rfl)
theorem rd_cls {base e n : Nat} {v : Value} {l : List Cl} {w : World} (h : w.ownsRow base e 4 v n (cellsCl l)) : Rd (fun k=>base ≤ k) (fun w=>RowOf 4 elCl w v l) w:=by
 have hl : l.length = n:=by have:=h.1; rw [length_cellsCl] at this; omega
 subst hl
 exact (rd_owns h).imp fun w h=>rowOf_cls.2 h

set_option maxRecDepth 100000 in
set_option maxHeartbeats 400000 in
theorem own_callsG (v : Value) (xs : List Cl) (w : World) (hv : RowOf 4 elCl w v xs) (hr : xs.length * 32 ≤ 140737488355328) :
  Gives Try.prog 47 #[v] w fun r w'=>w'.ownsRow w.heap.size 33 4 r xs.length (cellsCl xs) ∧ r = .slice (some ⟨w.heap.size,0,none⟩) xs.length xs.length:=by
 unfold Gives
 obtain ⟨i0,hi,hz0,hz1,hz2⟩:=info_parts Try.infoCallG
 have hsz : (Try.prog.info? 33).map (·.size) = some 4:=by rw [hi]; simp [hz1]
 have hrow : Row w 4 v xs.length (cellsCl xs):=rowOf_cls.1 hv
 clear hv
 obtain ⟨hlen,ao,cap,rfl,h1,h2,h0,h3⟩:=hrow
 unfold maxLen at h2
 go_enter Try.func47,Try.ntmps47
 go_wp2_with (at_make; refine wpList_make_full _ rfl _ _ 64 rfl w.heap.size 33 i0 (.agg #[.int .i64 0,.int .i64 0,.int .i64 0,.int .i64 0]) 4 Try.underlying64 hi hz0 hz1 .i64 .i64 _ _ xs.length rfl rfl rfl rfl (by rw [hz2]; omega) (by unfold maxLen; omega) (Nat.le_refl _) ?_; intro w1 hown hgrow)
 have he1 : Ext w w1:=(Ext.refl w).grown hgrow (fun k hk=>by cases hk)
 obtain ⟨w2,hrun,hown2,hgrow2⟩:=run_copy_sized (P:=Try.prog) w1 64 3 33 4 Try.underlying64 hsz w.heap.size w.heap.size xs.length _ (cellsCl xs) _ hown (Row.ext ⟨hlen,ao,cap,rfl,h1,h2,h0,h3⟩ he1) (cellsCl_one xs)
 have he2 : Ext w w2:=he1.grown hgrow2 (fun k hk=>by cases hk; exact Nat.le_refl _)
 rw [hrun]
 clear hrun hown hgrow hgrow2 he1 h3
 go_wp2
 go_ret
 exact ⟨_,rfl,he2,hown2,rfl⟩

set_option maxRecDepth 100000 in
set_option maxHeartbeats 400000 in
theorem own_repliesG (v : Value) (xs : List Rp) (w : World) (hv : RowOf 2 elRp w v xs) (hr : xs.length * 16 ≤ 140737488355328) :
  Gives Try.prog 48 #[v] w fun r w'=>w'.ownsRow w.heap.size 38 2 r xs.length (cellsR xs) ∧ r = .slice (some ⟨w.heap.size,0,none⟩) xs.length xs.length:=by
 unfold Gives
 obtain ⟨i0,hi,hz0,hz1,hz2⟩:=info_parts Try.infoReplyG
 have hsz : (Try.prog.info? 38).map (·.size) = some 2:=by rw [hi]; simp [hz1]
 have hrow : Row w 2 v xs.length (cellsR xs):=rowOf_rps.1 hv
 clear hv
 obtain ⟨hlen,ao,cap,rfl,h1,h2,h0,h3⟩:=hrow
 unfold maxLen at h2
 go_enter Try.func48,Try.ntmps48
 go_wp2_with (at_make; refine wpList_make_full _ rfl _ _ 65 rfl w.heap.size 38 i0 (.agg #[.int .i64 0,.int .i64 0]) 2 Try.underlying65 hi hz0 hz1 .i64 .i64 _ _ xs.length rfl rfl rfl rfl (by rw [hz2]; omega) (by unfold maxLen; omega) (Nat.le_refl _) ?_; intro w1 hown hgrow)
 have he1 : Ext w w1:=(Ext.refl w).grown hgrow (fun k hk=>by cases hk)
 obtain ⟨w2,hrun,hown2,hgrow2⟩:=run_copy_sized (P:=Try.prog) w1 65 3 38 2 Try.underlying65 hsz w.heap.size w.heap.size xs.length _ (cellsR xs) _ hown (Row.ext ⟨hlen,ao,cap,rfl,h1,h2,h0,h3⟩ he1) (cellsR_one xs)
 have he2 : Ext w w2:=he1.grown hgrow2 (fun k hk=>by cases hk; exact Nat.le_refl _)
 rw [hrun]
 clear hrun hown hgrow hgrow2 he1 h3
 go_wp2
 go_ret
 exact ⟨_,rfl,he2,hown2,rfl⟩

set_option maxRecDepth 100000 in
set_option maxHeartbeats 400000 in
theorem own_clientsG (v : Value) (n : Nat) (cs : List Value) (w : World) (hv : Row w 6 v n cs) (h1s : ∀ u ∈ cs,u.oneCell' = true) (hr : n * 96 ≤ 140737488355328) :
  Gives Try.prog 26 #[v] w fun r w'=>w'.ownsRow w.heap.size 67 6 r n cs ∧ r = .slice (some ⟨w.heap.size,0,none⟩) n n:=by
 unfold Gives
 obtain ⟨i0,hi,hz0,hz1,hz2⟩:=info_parts Try.infoClient
 have hsz : (Try.prog.info? 67).map (·.size) = some 6:=by rw [hi]; simp [hz1]
 have hrow : Row w 6 v n cs:=hv
 clear hv
 obtain ⟨hlen,ao,cap,rfl,h1,h2,h0,h3⟩:=hrow
 unfold maxLen at h2
 go_enter Try.func26,Try.ntmps26
 go_wp2_with (at_make; refine wpList_make_full _ rfl _ _ 41 rfl w.heap.size 67 i0 (.agg #[.slice none 0 0,I 0,.bool false,I 0,.slice none 0 0,.slice none 0 0]) 6 Try.underlying41 hi hz0 hz1 .i64 .i64 _ _ n rfl rfl rfl rfl (by rw [hz2]; omega) (by unfold maxLen; omega) (Nat.le_refl _) ?_; intro w1 hown hgrow)
 have he1 : Ext w w1:=(Ext.refl w).grown hgrow (fun k hk=>by cases hk)
 obtain ⟨w2,hrun,hown2,hgrow2⟩:=run_copy_sized (P:=Try.prog) w1 41 3 67 6 Try.underlying41 hsz w.heap.size w.heap.size n _ cs _ hown (Row.ext ⟨hlen,ao,cap,rfl,h1,h2,h0,h3⟩ he1) h1s
 have he2 : Ext w w2:=he1.grown hgrow2 (fun k hk=>by cases hk; exact Nat.le_refl _)
 rw [hrun]
 clear hrun hown hgrow hgrow2 he1 h3
 go_wp2
 go_ret
 exact ⟨_,rfl,he2,hown2,rfl⟩

/-- How much a client may hold. -/
def SmallC (c : Cn) : Prop:=c.calls.length ≤ 1000000 ∧ c.box.length ≤ 1000000 ∧ (∀ b ∈ c.box,b.length ≤ 140737488355328) ∧ c.got.length ≤ 1000000

set_option maxRecDepth 100000 in
set_option maxHeartbeats 2000000 in
theorem OwnClient_keeps (c : Cn) (calls box got : Value) (w : World) (h1 : RowOf 4 elCl w calls c.calls) (h2 : RowOf 1 elBs w box c.box) (h3 : RowOf 2 elRp w got c.got) (hs : SmallC c) :
  Keeps Try.prog 27 #[.agg #[calls,I c.at_,.bool c.sent,I c.gen,box,got]] w (fun _=>False) (fun r w'=>Agg elCn c r w'):=by
 unfold Keeps
 have HS:=Lib.hid hs
 clear hs
 obtain ⟨ka,kc,rfl⟩:=rowOf_slice h1
 obtain ⟨xa,xc,rfl⟩:=rowOf_slice h2
 obtain ⟨ga,gc,rfl⟩:=rowOf_slice h3
 have H1:=Lib.hid h1
 have H2:=Lib.hid h2
 have H3:=Lib.hid h3
 clear h1 h2 h3
 have EW:=Lib.hid (Ext.refl w)
 obtain ⟨B,hB⟩:=away (fun _=>False) w.heap.size 2
 have HK:=Lib.hid hB
 clear hB
 go_enter Try.func27,Try.ntmps27
 go_wp2_with ((with_reducible refine zst (L:=[43,40,30,67]) ?_ ?_); exact rfl)
 unfold Hid
 refine wpList_boxB rfl 67 (.tmp 0) rfl #[.slice ka c.calls.length kc,I c.at_,.bool c.sent,I c.gen,.slice xa c.box.length xc,.slice ga c.got.length gc] rfl (fun b0 w1_ M1=>?_)
 have B_b0:=zmb M1
 replace EW:=zet EW M1
 go_wp2_with ((with_reducible refine zst (L:=[43,40,30,67]) ?_ ?_); exact rfl)
 unfold Hid
 refine wpList_allocB rfl 67 #[.slice none 0 0,I 0,.bool false,I 0,.slice none 0 0,.slice none 0 0] (by kernel_rfl) (fun b1 w2_ M2=>?_)
 have D_b0_b1:=zld B_b0 M2
 replace B_b0:=zmo M2 B_b0
 have B_b1:=zmb M2
 replace EW:=zet EW M2
 have A_b0 : Hid (b0 = w.heap.size + 0):=by unfold Hid; have q0:=M1.out.at_; have r0:=M1.out.size; omega
 have N_b0:=znb HK A_b0 (by decide)
 have O_b0:=zob A_b0
 have A_b1 : Hid (b1 = w.heap.size + 1):=by unfold Hid; have q0:=M1.out.at_; have r0:=M1.out.size; have q1:=M2.out.at_; have r1:=M2.out.size; omega
 have N_b1:=znb HK A_b1 (by decide)
 have O_b1:=zob A_b1
 have cq:=cell_of (i:=0) B_b0.out rfl
 go_wp2_with fail
 clear cq
 refine (own_callsG _ c.calls w2_ (H1.out.ext monoCl EW.out) (by have:=HS.out.1; omega)).to fun r wa ea hr=>?_
 obtain ⟨ya,yc,rfl⟩ : ∃ a b,r = .slice a c.calls.length b:=⟨_,_,hr.2⟩
 have hin : ∀ k,w2_.heap.size ≤ k → B k:=fun k h=>HK.out.2.1 k (by have q:=(Array.getElem?_eq_some_iff.1 B_b1.out).1; have q2:=A_b1.out; omega)
 have R1:=Lib.hid ((rd_cls hr.1).widen (B:=B) fun k _ h=>hin k h)
 clear hin hr
 replace B_b0:=zbx B_b0 ea
 replace B_b1:=zbx B_b1 ea
 replace EW:=Lib.hid (EW.out.trans ea)
 clear ea
 go_wp2_with ((with_reducible refine zst (L:=[43,40,30,67]) ?_ ?_); exact rfl)
 unfold Hid
 refine wpList_storeP rfl 64 (.tmp 6) (.tmp 5) rfl b0 0 rfl [.slice ya c.calls.length yc] (rfl) B_b0 rfl (by kernel_rfl) rfl [.slice ya c.calls.length yc,I c.at_,.bool c.sent,I c.gen,.slice xa c.box.length xc,.slice ga c.got.length gc] rfl (fun w3_ M3=>?_)
 replace B_b0:=zwb M3
 replace B_b1:=zwg M3 B_b1 D_b0_b1
 replace R1:=zwr M3 R1 N_b0
 replace EW:=zwe M3 EW O_b0
 have cq:=cell_of (i:=4) B_b0.out rfl
 go_wp2_with fail
 clear cq
 refine (ownBox_any _ c.box w3_ (H2.out.ext monoBs EW.out) (by have:=HS.out.2.1; omega) HS.out.2.2.1).to fun r wb eb hr=>?_
 obtain ⟨za,zc,rfl⟩:=hr.1.slice
 have hin : ∀ k,w3_.heap.size ≤ k → B k:=fun k h=>HK.out.2.1 k (by have q:=(Array.getElem?_eq_some_iff.1 B_b1.out).1; have q2:=A_b1.out; omega)
 have R2:=Lib.hid ((hr.1.rd (B:=fun k=>w3_.heap.size ≤ k) (fun k h _=>h)).widen (B:=B) fun k _ h=>hin k h)
 clear hin hr
 replace B_b0:=zbx B_b0 eb
 replace B_b1:=zbx B_b1 eb
 replace R1:=zrx R1 eb
 replace EW:=Lib.hid (EW.out.trans eb)
 clear eb
 go_wp2_with ((with_reducible refine zst (L:=[43,40,30,67]) ?_ ?_); exact rfl)
 unfold Hid
 refine wpList_storeP rfl 31 (.tmp 10) (.tmp 9) rfl b0 4 rfl [.slice za c.box.length zc] (rfl) B_b0 rfl (by kernel_rfl) rfl [.slice ya c.calls.length yc,I c.at_,.bool c.sent,I c.gen,.slice za c.box.length zc,.slice ga c.got.length gc] rfl (fun w4_ M4=>?_)
 replace B_b0:=zwb M4
 replace B_b1:=zwg M4 B_b1 D_b0_b1
 replace R1:=zwr M4 R1 N_b0
 replace R2:=zwr M4 R2 N_b0
 replace EW:=zwe M4 EW O_b0
 have cq:=cell_of (i:=5) B_b0.out rfl
 go_wp2_with fail
 clear cq
 refine (own_repliesG _ c.got w4_ (H3.out.ext monoRp EW.out) (by have:=HS.out.2.2.2; omega)).to fun r wc ec hr=>?_
 obtain ⟨ta,tc,rfl⟩ : ∃ a b,r = .slice a c.got.length b:=⟨_,_,hr.2⟩
 have hin : ∀ k,w4_.heap.size ≤ k → B k:=fun k h=>HK.out.2.1 k (by have q:=(Array.getElem?_eq_some_iff.1 B_b1.out).1; have q2:=A_b1.out; omega)
 have R3:=Lib.hid ((rd_rps hr.1).widen (B:=B) fun k _ h=>hin k h)
 clear hin hr
 replace B_b0:=zbx B_b0 ec
 replace B_b1:=zbx B_b1 ec
 replace R1:=zrx R1 ec
 replace R2:=zrx R2 ec
 replace EW:=Lib.hid (EW.out.trans ec)
 clear ec
 go_wp2_with ((with_reducible refine zst (L:=[43,40,30,67]) ?_ ?_); exact rfl)
 unfold Hid
 refine wpList_storeP rfl 65 (.tmp 14) (.tmp 13) rfl b0 5 rfl [.slice ta c.got.length tc] (rfl) B_b0 rfl (by kernel_rfl) rfl [.slice ya c.calls.length yc,I c.at_,.bool c.sent,I c.gen,.slice za c.box.length zc,.slice ta c.got.length tc] rfl (fun w5_ M5=>?_)
 replace B_b0:=zwb M5
 replace B_b1:=zwg M5 B_b1 D_b0_b1
 replace R1:=zwr M5 R1 N_b0
 replace R2:=zwr M5 R2 N_b0
 replace R3:=zwr M5 R3 N_b0
 replace EW:=zwe M5 EW O_b0
 go_wp2_with ((with_reducible refine zst (L:=[43,40,30,67]) ?_ ?_); exact rfl)
 unfold Hid
 refine wpList_loadW rfl 67 (.tmp 1) rfl b0 rfl B_b0 Try.underlying67 (by kernel_rfl) (fun v15 H_v15=>?_)
 go_wp2_with ((with_reducible refine zst (L:=[43,40,30,67]) ?_ ?_); exact rfl)
 unfold Hid
 refine wpList_storeW rfl 67 (.tmp 2) (.tmp 15) rfl b1 rfl _ (zcv H_v15) B_b1 rfl (by kernel_rfl) rfl (fun w6_ M6=>?_)
 replace B_b0:=zwl M6 B_b0 D_b0_b1
 replace B_b1:=zwb M6
 replace R1:=zwr M6 R1 N_b1
 replace R2:=zwr M6 R2 N_b1
 replace R3:=zwr M6 R3 N_b1
 replace EW:=zwe M6 EW O_b1
 go_wp2
 have z0:=run_box (P:=Try.prog) 67 B_b1.out Try.underlying67 (by kernel_rfl)
 refine bodyPost_ret (by simp [results,Try.results27,asAddr,z0,Act.put]; rfl) rfl ?_
 exact ⟨_,rfl,EW.out,Rd.widen (A:=B) (agg_rd (cn_rd (c:=c) R1.out R2.out R3.out)) (fun k _ h=>HK.out.2.2.2 k h)⟩

end Go.Proofs.Ytdmipnnfoolelad
