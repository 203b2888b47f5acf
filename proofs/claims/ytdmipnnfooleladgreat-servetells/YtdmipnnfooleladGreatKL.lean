/- Texts of the proof, merged: N7 N9 V2 V3 S8 M1. -/
import Derived.Test.YtdmipnnfooleladGreatKK
import Derived.Test.YtdmipnnfooleladGreatKC
import Derived.Test.YtdmipnnfooleladGreatKG
import Derived.Test.YtdmipnnfooleladGreatKH
import Derived.Test.YtdmipnnfooleladGreatKI
import Derived.Test.YtdmipnnfooleladGreatKB
import Derived.Test.YtdmipnnfooleladGreatKF
import Derived.Test.YtdmipnnfooleladGreatKE

namespace Go.Proofs.YtdmipnnfooleladGreat
open Go.RowKit Go.Mk
set_option maxRecDepth 100000

set_option maxHeartbeats 4000000 in
theorem refServe_take (sc : List Int) (su : List (Int × Int)) (sa : List An) (sp : List Rq) (gen : Int) (nc nt nk na no nn : Int) (se sn : Int) (b : List UInt8) (l : List (List UInt8)) (pl : List (Int × Int)) (c u a p box plan : Value) (w : World) (A : Nat → Prop) (hs : Rd A (fun w=>elSt w [c,u,a,p] ⟨sc,su,sa,sp⟩) w) (hb : Rd A (fun w=>RowOf 1 elBs w box (b :: l)) w) (hp : Rd A (fun w=>Writes w plan pl) w) (hwo : Weak sc) :
  Keeps Tryz.prog 13 #[.agg #[c,u,a,p],.agg #[I gen,box,.bool false,I nc,I nt,I nk,I na,I no,I nn,plan,I se,I sn]] w A (fun r w'=>Tup4 (serveM ⟨sc,su,sa,sp⟩ ⟨gen,(b :: l),false,⟨nc,nt,⟨nk,na,no,nn⟩⟩,pl,⟨se,sn⟩⟩).1 (serveM ⟨sc,su,sa,sp⟩ ⟨gen,(b :: l),false,⟨nc,nt,⟨nk,na,no,nn⟩⟩,pl,⟨se,sn⟩⟩).2.1 (serveM ⟨sc,su,sa,sp⟩ ⟨gen,(b :: l),false,⟨nc,nt,⟨nk,na,no,nn⟩⟩,pl,⟨se,sn⟩⟩).2.2.1 (serveM ⟨sc,su,sa,sp⟩ ⟨gen,(b :: l),false,⟨nc,nt,⟨nk,na,no,nn⟩⟩,pl,⟨se,sn⟩⟩).2.2.2 r w'):=by
 suffices hall : ∀ T : Value → World → Prop,(∀ r A w,Rd A (Tup4 (serveM ⟨sc,su,sa,sp⟩ ⟨gen,(b :: l),false,⟨nc,nt,⟨nk,na,no,nn⟩⟩,pl,⟨se,sn⟩⟩).1 (serveM ⟨sc,su,sa,sp⟩ ⟨gen,(b :: l),false,⟨nc,nt,⟨nk,na,no,nn⟩⟩,pl,⟨se,sn⟩⟩).2.1 (serveM ⟨sc,su,sa,sp⟩ ⟨gen,(b :: l),false,⟨nc,nt,⟨nk,na,no,nn⟩⟩,pl,⟨se,sn⟩⟩).2.2.1 (serveM ⟨sc,su,sa,sp⟩ ⟨gen,(b :: l),false,⟨nc,nt,⟨nk,na,no,nn⟩⟩,pl,⟨se,sn⟩⟩).2.2.2 r) w → Rd A (T r) w) → Keeps Tryz.prog 13 #[.agg #[c,u,a,p],.agg #[I gen,box,.bool false,I nc,I nt,I nk,I na,I no,I nn,plan,I se,I sn]] w A T from hall _ (fun _ _ _ h=>h)
 intro T hT
 have HT:=Lib.hid hT
 clear hT
 unfold Keeps
 obtain ⟨h1,h2,h3,h4⟩:=st_iff.1 hs.out
 obtain ⟨ca,cc,rfl⟩:=row_slice h1
 obtain ⟨ua,uc,rfl⟩:=row_slice h2
 obtain ⟨aa,ac,rfl⟩:=rowOf_slice h3
 obtain ⟨pa,pc,rfl⟩:=rowOf_slice h4
 simp only [] at *
 have EW:=Lib.hid (Ext.refl w)
 obtain ⟨B,hB⟩:=away A w.heap.size 4
 have HK:=Lib.hid hB
 clear hB
 have R0:=Lib.hid ((hs.and hp).widen HK.out.1)
 obtain ⟨la,lc,rfl⟩:=row_slice hp.out
 obtain ⟨xb,xo,xc,bv,rfl,hx1,hx2,hf,hrest⟩:=box_first (hb.widen HK.out.1)
 have HF:=Lib.hid hf
 have HB:=Lib.hid hrest
 unfold maxLen at hx2
 have HWO:=Lib.hid hwo
 clear h1 h2 h3 h4 hs hb hp hf hrest hwo
 obtain ⟨⟨rc,rt,⟨rk,ra,ro,rn⟩⟩,re,hrr⟩ : ∃ x y,readRq b = (x,y):=⟨_,_,rfl⟩
 have HRR:=Lib.hid hrr
 clear hrr
 obtain ⟨⟨lc2,lt,⟨le,ln⟩⟩,LB,hL⟩ : ∃ x y,lastAn sa rc = (x,y):=⟨_,_,rfl⟩
 have HL:=Lib.hid hL
 clear hL
 go_enter Tryz.func13,Tryz.ntmps13
 go_wp2_with ((with_reducible refine zst (L:=[44,41,31,100]) ?_ ?_); exact rfl)
 unfold Hid
 refine wpList_boxB rfl 31 (.tmp 0) rfl #[.slice ca sc.length cc,.slice ua su.length uc,.slice aa sa.length ac,.slice pa sp.length pc] rfl (fun b0 w1_ M1=>?_)
 have B_b0:=zmb M1
 replace R0:=zme M1 R0
 replace HF:=zme M1 HF
 replace HB:=zme M1 HB
 replace EW:=zet EW M1
 go_wp2_with ((with_reducible refine zst (L:=[44,41,31,100]) ?_ ?_); exact rfl)
 unfold Hid
 refine wpList_boxB rfl 41 (.tmp 1) rfl #[I gen,.slice (some ⟨xb,xo,none⟩) (l.length + 1) xc,.bool false,I nc,I nt,I nk,I na,I no,I nn,.slice la pl.length lc,I se,I sn] rfl (fun b1 w2_ M2=>?_)
 have D_b0_b1:=zld B_b0 M2
 replace B_b0:=zmo M2 B_b0
 have B_b1:=zmb M2
 replace R0:=zme M2 R0
 replace HF:=zme M2 HF
 replace HB:=zme M2 HB
 replace EW:=zet EW M2
 go_wp2_with ((with_reducible refine zst (L:=[44,41,31,100]) ?_ ?_); exact rfl)
 unfold Hid
 refine wpList_allocB rfl 31 #[.slice none 0 0,.slice none 0 0,.slice none 0 0,.slice none 0 0] (by kernel_rfl) (fun b2 w3_ M3=>?_)
 have D_b0_b2:=zld B_b0 M3
 have D_b1_b2:=zld B_b1 M3
 replace B_b0:=zmo M3 B_b0
 replace B_b1:=zmo M3 B_b1
 have B_b2:=zmb M3
 replace R0:=zme M3 R0
 replace HF:=zme M3 HF
 replace HB:=zme M3 HB
 replace EW:=zet EW M3
 go_wp2_with ((with_reducible refine zst (L:=[44,41,31,100]) ?_ ?_); exact rfl)
 unfold Hid
 refine wpList_allocB rfl 41 #[I 0,.slice none 0 0,.bool false,I 0,I 0,I 0,I 0,I 0,I 0,.slice none 0 0,I 0,I 0] (by kernel_rfl) (fun b3 w4_ M4=>?_)
 have D_b0_b3:=zld B_b0 M4
 have D_b1_b3:=zld B_b1 M4
 have D_b2_b3:=zld B_b2 M4
 replace B_b0:=zmo M4 B_b0
 replace B_b1:=zmo M4 B_b1
 replace B_b2:=zmo M4 B_b2
 have B_b3:=zmb M4
 replace R0:=zme M4 R0
 replace HF:=zme M4 HF
 replace HB:=zme M4 HB
 replace EW:=zet EW M4
 have A_b0 : Hid (b0 = w.heap.size + 0):=by unfold Hid; have q0:=M1.out.at_; have r0:=M1.out.size; omega
 have N_b0:=znb HK A_b0 (by decide)
 have O_b0:=zob A_b0
 have A_b1 : Hid (b1 = w.heap.size + 1):=by unfold Hid; have q0:=M1.out.at_; have r0:=M1.out.size; have q1:=M2.out.at_; have r1:=M2.out.size; omega
 have N_b1:=znb HK A_b1 (by decide)
 have O_b1:=zob A_b1
 have A_b2 : Hid (b2 = w.heap.size + 2):=by unfold Hid; have q0:=M1.out.at_; have r0:=M1.out.size; have q1:=M2.out.at_; have r1:=M2.out.size; have q2:=M3.out.at_; have r2:=M3.out.size; omega
 have N_b2:=znb HK A_b2 (by decide)
 have O_b2:=zob A_b2
 have A_b3 : Hid (b3 = w.heap.size + 3):=by unfold Hid; have q0:=M1.out.at_; have r0:=M1.out.size; have q1:=M2.out.at_; have r1:=M2.out.size; have q2:=M3.out.at_; have r2:=M3.out.size; have q3:=M4.out.at_; have r3:=M4.out.size; omega
 have N_b3:=znb HK A_b3 (by decide)
 have O_b3:=zob A_b3
 have c1:=cell_of (i:=1) B_b1.out rfl
 have cx:=HF.out.out.1
 have c2:=cell_of (i:=2) B_b1.out rfl
 go_wp2_with fail
 clear c1 cx c2
 have hl:=refReadRequest_any bv b w4_ HF.out.out.2
 rw [HRR.out] at hl
 refine Calls.exts hl (fun wa ea=>?_)
 clear hl HF
 replace B_b0:=zbx B_b0 ea
 replace B_b1:=zbx B_b1 ea
 replace B_b2:=zbx B_b2 ea
 replace B_b3:=zbx B_b3 ea
 replace R0:=zrx R0 ea
 replace HB:=zrx HB ea
 replace EW:=Lib.hid (EW.out.trans ea)
 clear ea
 go_wp2_with ((with_reducible refine zst (L:=[44,41,31,100]) ?_ ?_); exact rfl)
 unfold Hid
 refine wpList_allocB rfl 36 #[I 0,I 0,I 0,I 0,I 0,I 0] (by kernel_rfl) (fun b4 w5_ M5=>?_)
 have D_b0_b4:=zld B_b0 M5
 have D_b1_b4:=zld B_b1 M5
 have D_b2_b4:=zld B_b2 M5
 have D_b3_b4:=zld B_b3 M5
 obtain ⟨B1,HB1⟩ : ∃ X : Nat → Prop,Hid (∀ k,X k ↔ (B k ∧ k ≠ b4)):=⟨_,fun _=>Iff.rfl⟩
 replace R0:=zmd HB1 M5 R0
 replace HB:=zmd HB1 M5 HB
 replace N_b0:=znw HB1 N_b0
 replace N_b1:=znw HB1 N_b1
 replace N_b2:=znw HB1 N_b2
 replace N_b3:=znw HB1 N_b3
 have N_b4 : Hid (¬ B1 b4):=fun h=>((HB1.out _).1 h).2 rfl
 have I_B1 : Hid (∀ k,B1 k → B k):=fun k h=>((HB1.out k).1 h).1
 have O_b4 : Hid (w.heap.size ≤ b4):=by unfold Hid; have q2:=M5.out.at_; have q3:=EW.out.size; omega
 replace B_b0:=zmo M5 B_b0
 replace B_b1:=zmo M5 B_b1
 replace B_b2:=zmo M5 B_b2
 replace B_b3:=zmo M5 B_b3
 have B_b4:=zmb M5
 replace R0:=zme M5 R0
 replace HB:=zme M5 HB
 replace EW:=zet EW M5
 go_wp2_with ((with_reducible refine zst (L:=[44,41,31,100]) ?_ ?_); exact rfl)
 unfold Hid
 refine wpList_storeW rfl 36 (.tmp 9) (.tmp 69) rfl b4 rfl [I rc,I rt,I rk,I ra,I ro,I rn] (rfl) B_b4 rfl (by kernel_rfl) rfl (fun w6_ M6=>?_)
 replace B_b0:=zwl M6 B_b0 D_b0_b4
 replace B_b1:=zwl M6 B_b1 D_b1_b4
 replace B_b2:=zwl M6 B_b2 D_b2_b4
 replace B_b3:=zwl M6 B_b3 D_b3_b4
 replace B_b4:=zwb M6
 replace R0:=zwr M6 R0 N_b4
 replace HB:=zwr M6 HB N_b4
 replace EW:=zwe M6 EW O_b4
 have c1:=cell_of (i:=1) B_b1.out rfl
 go_wp2_with (first | ((with_reducible refine zst (L:=[44,41,31,100]) ?_ ?_); exact rfl) | ((with_reducible refine zsc ?_ ?_); exact rfl))
 unfold Hid
 clear c1
 refine wpList_cut rfl l.length (fun na nc=>Rd B1 (fun w=>RowOf 1 elBs w (.slice na l.length nc) l) w6_) ?_ (fun na' nc' hn=>?_)
 ·by_cases hcap : xc = 1
  ·have hl0 : l = []:=List.eq_nil_of_length_eq_zero (by omega)
   refine ⟨some ⟨xb,xo,none⟩,0,by rw [hl0]; exact Rd.all fun w=>rowOf_empty w xb xo 0 (by decide),?_⟩
   rw [hl0]
   subst hcap
   go_simp
  ·exact ⟨some ⟨xb,xo + 1,none⟩,xc - 1,HB.out,by go_simp; intro h; omega⟩
 replace HB:=Lib.hid hn
 clear hn hx1 hx2
 go_wp2_with ((with_reducible refine zst (L:=[44,41,31,100]) ?_ ?_); exact rfl)
 unfold Hid
 refine wpList_storeP rfl 32 (.tmp 74) (.tmp 73) rfl b1 1 rfl [.slice na' l.length nc'] (rfl) B_b1 rfl (by kernel_rfl) rfl [I gen,.slice na' l.length nc',.bool false,I nc,I nt,I nk,I na,I no,I nn,.slice la pl.length lc,I se,I sn] rfl (fun w7_ M7=>?_)
 replace B_b0:=zwl M7 B_b0 D_b0_b1
 replace B_b1:=zwb M7
 replace B_b2:=zwg M7 B_b2 D_b1_b2
 replace B_b3:=zwg M7 B_b3 D_b1_b3
 replace B_b4:=zwg M7 B_b4 D_b1_b4
 replace R0:=zwr M7 R0 N_b1
 replace HB:=zwr M7 HB N_b1
 replace EW:=zwe M7 EW O_b1
 by_cases hre : re = 0
 case neg =>
  have hbe : (re != 0) = true:=by simpa using hre
  go_wp2_with fail
  refine held_drew (S:=fun w'=>w'.heap[b0]? = some (.cells #[.slice ca sc.length cc,.slice ua su.length uc,.slice aa sa.length ac,.slice pa sp.length pc] 31 (0,0)) ∧ w'.heap[b1]? = some (.cells #[I gen,.slice na' l.length nc',.bool false,I nc,I nt,I nk,I na,I no,I nn,.slice la pl.length lc,I se,I sn] 41 (0,0))) (by kernel_rfl) (fun wd ed _=>?_)
  replace B_b0:=zbx B_b0 ed
  replace B_b1:=zbx B_b1 ed
  replace B_b2:=zbx B_b2 ed
  replace B_b3:=zbx B_b3 ed
  replace B_b4:=zbx B_b4 ed
  replace R0:=zrx R0 ed
  replace HB:=zrx HB ed
  replace EW:=Lib.hid (EW.out.trans ed)
  have HSS : Hid (wd.heap[b0]? = some (.cells #[.slice ca sc.length cc,.slice ua su.length uc,.slice aa sa.length ac,.slice pa sp.length pc] 31 (0,0)) ∧ wd.heap[b1]? = some (.cells #[I gen,.slice na' l.length nc',.bool false,I nc,I nt,I nk,I na,I no,I nn,.slice la pl.length lc,I se,I sn] 41 (0,0))):=⟨B_b0.out,B_b1.out⟩
  refine held_loadW 0 rfl (by kernel_rfl) (by kernel_rfl) (by kernel_rfl) (fun _ _ _ _ h=>h) rfl 31 (.tmp 2) rfl b0 rfl (fun w' hS=>hS.1) Tryz.underlying31 (by kernel_rfl) HSS ?_
  refine held_norm (fun K hK=>?_); go_simp; refine hK _ ?_; clear hK K
  refine held_loadW 1 rfl (by kernel_rfl) (by kernel_rfl) (by kernel_rfl) (fun _ _ _ _ h=>h) rfl 41 (.tmp 3) rfl b1 rfl (fun w' hS=>hS.2) Tryz.underlying41 (by kernel_rfl) HSS ?_
  refine held_norm (fun K hK=>?_); go_simp; refine hK _ ?_; clear hK K
  refine held_storeW 2 (by kernel_rfl) rfl rfl 31 (.tmp 4) (.tmp 77) rfl b2 rfl [.slice ca sc.length cc,.slice ua su.length uc,.slice aa sa.length ac,.slice pa sp.length pc] (rfl) B_b2 rfl (by kernel_rfl) rfl (fun w8_ M8=>⟨?_,?_⟩)
  ·exact ⟨M8.out.old B_b0.out (Nat.ne_of_lt D_b0_b2.out),M8.out.old B_b1.out (Nat.ne_of_lt D_b1_b2.out)⟩
  replace B_b0:=zwl M8 B_b0 D_b0_b2
  replace B_b1:=zwl M8 B_b1 D_b1_b2
  replace B_b2:=zwb M8
  replace B_b3:=zwg M8 B_b3 D_b2_b3
  replace B_b4:=zwg M8 B_b4 D_b2_b4
  replace R0:=zwr M8 R0 N_b2
  replace HB:=zwr M8 HB N_b2
  replace EW:=zwe M8 EW O_b2
  clear HSS
  have HSS : Hid (w8_.heap[b0]? = some (.cells #[.slice ca sc.length cc,.slice ua su.length uc,.slice aa sa.length ac,.slice pa sp.length pc] 31 (0,0)) ∧ w8_.heap[b1]? = some (.cells #[I gen,.slice na' l.length nc',.bool false,I nc,I nt,I nk,I na,I no,I nn,.slice la pl.length lc,I se,I sn] 41 (0,0))):=⟨B_b0.out,B_b1.out⟩
  refine held_norm (fun K hK=>?_); go_simp; refine hK _ ?_; clear hK K
  refine held_storeW 3 (by kernel_rfl) rfl rfl 41 (.tmp 5) (.tmp 78) rfl b3 rfl [I gen,.slice na' l.length nc',.bool false,I nc,I nt,I nk,I na,I no,I nn,.slice la pl.length lc,I se,I sn] (rfl) B_b3 rfl (by kernel_rfl) rfl (fun w9_ M9=>⟨?_,?_⟩)
  ·exact ⟨M9.out.old B_b0.out (Nat.ne_of_lt D_b0_b3.out),M9.out.old B_b1.out (Nat.ne_of_lt D_b1_b3.out)⟩
  replace B_b0:=zwl M9 B_b0 D_b0_b3
  replace B_b1:=zwl M9 B_b1 D_b1_b3
  replace B_b2:=zwl M9 B_b2 D_b2_b3
  replace B_b3:=zwb M9
  replace B_b4:=zwg M9 B_b4 D_b3_b4
  replace R0:=zwr M9 R0 N_b3
  replace HB:=zwr M9 HB N_b3
  replace EW:=zwe M9 EW O_b3
  clear HSS
  have HSS : Hid (w9_.heap[b0]? = some (.cells #[.slice ca sc.length cc,.slice ua su.length uc,.slice aa sa.length ac,.slice pa sp.length pc] 31 (0,0)) ∧ w9_.heap[b1]? = some (.cells #[I gen,.slice na' l.length nc',.bool false,I nc,I nt,I nk,I na,I no,I nn,.slice la pl.length lc,I se,I sn] 41 (0,0))):=⟨B_b0.out,B_b1.out⟩
  refine held_norm (fun K hK=>?_); go_simp; refine hK _ ?_; clear hK K
  refine held_value 4 (by kernel_rfl) rfl rfl _ rfl HSS.out ?_
  refine held_norm (fun K hK=>?_); go_simp; refine hK _ ?_; clear hK K
  refine held_value 5 (by kernel_rfl) rfl rfl _ rfl HSS.out ?_
  refine held_norm (fun K hK=>?_); go_simp; refine hK _ ?_; clear hK K
  refine wpAnyH_done (by kernel_rfl) ?_ _
  clear HSS
  go_wp2
  have z0:=run_box (P:=Tryz.prog) 31 B_b2.out Tryz.underlying31 (by kernel_rfl)
  have z1:=run_box (P:=Tryz.prog) 41 B_b3.out Tryz.underlying41 (by kernel_rfl)
  refine bodyPost_ret (by simp [results,Tryz.results13,asAddr,z0,z1]; rfl) rfl ?_
  have hX : serveM ⟨sc,su,sa,sp⟩ ⟨gen,(b :: l),false,⟨nc,nt,⟨nk,na,no,nn⟩⟩,pl,⟨se,sn⟩⟩ = (⟨sc,su,sa,sp⟩,⟨gen,l,false,⟨nc,nt,⟨nk,na,no,nn⟩⟩,pl,⟨se,sn⟩⟩,[],0):=by
   show (if (readRq b).2 ≠ 0 then _ else if (lastAn sa (readRq b).1.client).2 = true ∧ (readRq b).1.token ≤ (lastAn sa (readRq b).1.client).1.token then (if (lastAn sa (readRq b).1.client).1.token = (readRq b).1.token then _ else _) else _) = _
   rw [HRR.out]
   simp only []
   rw [HL.out]
   rw [if_pos hre]
  have ht:=HT.out
  rw [hX] at ht
  exact ⟨_,rfl,EW.out,ht _ _ _ (Rd.widen (A:=B1) (tup4_rd R0.out.left (sv_rd (v:=⟨gen,l,false,⟨nc,nt,⟨nk,na,no,nn⟩⟩,pl,⟨se,sn⟩⟩) HB.out R0.out.right) (Rd.all fun w=>bytes_nil w)) (fun k _ h=>HK.out.2.2.2 k (I_B1.out k h)))⟩
 subst hre
 go_wp2_with ((with_reducible refine zst (L:=[44,41,31,100]) ?_ ?_); exact rfl)
 unfold Hid
 refine wpList_loadW rfl 31 (.tmp 2) rfl b0 rfl B_b0 Tryz.underlying31 (by kernel_rfl) (fun v80 H_v80=>?_)
 have d0:=cell_of (i:=0) B_b4.out rfl
 go_wp2_with fail
 clear d0
 rw [H_v80.out]
 have hl:=refLast_any _ _ _ _ ⟨sc,su,sa,sp⟩ rc w7_ R0.out.left.out
 rw [HL.out] at hl
 refine Calls.exts hl (fun wl el=>?_)
 clear hl H_v80
 replace B_b0:=zbx B_b0 el
 replace B_b1:=zbx B_b1 el
 replace B_b2:=zbx B_b2 el
 replace B_b3:=zbx B_b3 el
 replace B_b4:=zbx B_b4 el
 replace R0:=zrx R0 el
 replace HB:=zrx HB el
 replace EW:=Lib.hid (EW.out.trans el)
 clear el
 go_wp2_with ((with_reducible refine zst (L:=[44,41,31,100]) ?_ ?_); exact rfl)
 unfold Hid
 refine wpList_allocB rfl 59 #[I 0,I 0,I 0,I 0] (by kernel_rfl) (fun b5 w8_ M8=>?_)
 have D_b0_b5:=zld B_b0 M8
 have D_b1_b5:=zld B_b1 M8
 have D_b2_b5:=zld B_b2 M8
 have D_b3_b5:=zld B_b3 M8
 have D_b4_b5:=zld B_b4 M8
 obtain ⟨B11,HB11⟩ : ∃ X : Nat → Prop,Hid (∀ k,X k ↔ (B1 k ∧ k ≠ b5)):=⟨_,fun _=>Iff.rfl⟩
 replace R0:=zmd HB11 M8 R0
 replace HB:=zmd HB11 M8 HB
 replace N_b0:=znw HB11 N_b0
 replace N_b1:=znw HB11 N_b1
 replace N_b2:=znw HB11 N_b2
 replace N_b3:=znw HB11 N_b3
 replace N_b4:=znw HB11 N_b4
 have N_b5 : Hid (¬ B11 b5):=fun h=>((HB11.out _).1 h).2 rfl
 have I_B11 : Hid (∀ k,B11 k → B1 k):=fun k h=>((HB11.out k).1 h).1
 have O_b5 : Hid (w.heap.size ≤ b5):=by unfold Hid; have q2:=M8.out.at_; have q3:=EW.out.size; omega
 replace B_b0:=zmo M8 B_b0
 replace B_b1:=zmo M8 B_b1
 replace B_b2:=zmo M8 B_b2
 replace B_b3:=zmo M8 B_b3
 replace B_b4:=zmo M8 B_b4
 have B_b5:=zmb M8
 replace R0:=zme M8 R0
 replace HB:=zme M8 HB
 replace EW:=zet EW M8
 go_wp2_with ((with_reducible refine zst (L:=[44,41,31,100]) ?_ ?_); exact rfl)
 unfold Hid
 refine wpList_storeW rfl 59 (.tmp 11) (.tmp 84) rfl b5 rfl [I lc2,I lt,I le,I ln] (rfl) B_b5 rfl (by kernel_rfl) rfl (fun w9_ M9=>?_)
 replace B_b0:=zwl M9 B_b0 D_b0_b5
 replace B_b1:=zwl M9 B_b1 D_b1_b5
 replace B_b2:=zwl M9 B_b2 D_b2_b5
 replace B_b3:=zwl M9 B_b3 D_b3_b5
 replace B_b4:=zwl M9 B_b4 D_b4_b5
 replace B_b5:=zwb M9
 replace R0:=zwr M9 R0 N_b5
 replace HB:=zwr M9 HB N_b5
 replace EW:=zwe M9 EW O_b5
 have d1:=cell_of (i:=1) B_b4.out rfl
 have l1:=cell_of (i:=1) B_b5.out rfl
 by_cases hq1 : LB = true ∧ lt = rt
 case pos =>
  obtain ⟨rfl,rfl⟩:=hq1
  go_wp2_with fail
  clear d1 l1
  refine held_drew (S:=fun w'=>w'.heap[b0]? = some (.cells #[.slice ca sc.length cc,.slice ua su.length uc,.slice aa sa.length ac,.slice pa sp.length pc] 31 (0,0)) ∧ w'.heap[b1]? = some (.cells #[I gen,.slice na' l.length nc',.bool false,I nc,I nt,I nk,I na,I no,I nn,.slice la pl.length lc,I se,I sn] 41 (0,0)) ∧ w'.heap[b5]? = some (.cells #[I lc2,I lt,I le,I ln] 59 (0,0))) (by kernel_rfl) (fun wd ed _=>?_)
  replace B_b0:=zbx B_b0 ed
  replace B_b1:=zbx B_b1 ed
  replace B_b2:=zbx B_b2 ed
  replace B_b3:=zbx B_b3 ed
  replace B_b4:=zbx B_b4 ed
  replace B_b5:=zbx B_b5 ed
  replace R0:=zrx R0 ed
  replace HB:=zrx HB ed
  replace EW:=Lib.hid (EW.out.trans ed)
  have HSS : Hid (wd.heap[b0]? = some (.cells #[.slice ca sc.length cc,.slice ua su.length uc,.slice aa sa.length ac,.slice pa sp.length pc] 31 (0,0)) ∧ wd.heap[b1]? = some (.cells #[I gen,.slice na' l.length nc',.bool false,I nc,I nt,I nk,I na,I no,I nn,.slice la pl.length lc,I se,I sn] 41 (0,0)) ∧ wd.heap[b5]? = some (.cells #[I lc2,I lt,I le,I ln] 59 (0,0))):=⟨B_b0.out,B_b1.out,B_b5.out⟩
  refine held_loadW 0 rfl (by kernel_rfl) (by kernel_rfl) (by kernel_rfl) (fun _ _ _ _ h=>h) rfl 31 (.tmp 2) rfl b0 rfl (fun w' hS=>hS.1) Tryz.underlying31 (by kernel_rfl) HSS ?_
  refine held_norm (fun K hK=>?_); go_simp; refine hK _ ?_; clear hK K
  refine held_loadW 1 rfl (by kernel_rfl) (by kernel_rfl) (by kernel_rfl) (fun _ _ _ _ h=>h) rfl 41 (.tmp 3) rfl b1 rfl (fun w' hS=>hS.2.1) Tryz.underlying41 (by kernel_rfl) HSS ?_
  refine held_norm (fun K hK=>?_); go_simp; refine hK _ ?_; clear hK K
  refine held_loadW 2 rfl (by kernel_rfl) (by kernel_rfl) (by kernel_rfl) (fun _ _ _ _ h=>h) rfl 59 (.tmp 11) rfl b5 rfl (fun w' hS=>hS.2.2) Tryz.underlying59 (by kernel_rfl) HSS ?_
  refine held_norm (fun K hK=>?_); go_simp; refine hK _ ?_; clear hK K
  refine held_call 3 (by kernel_rfl) rfl rfl 19 #[.agg #[I lc2,I lt,I le,I ln]] (by go_simp) ?_
  refine (AnswerBytes_own lc2 lt le ln wd).to fun v45 w9 e9 hby=>?_
  replace hby:=hby.rd
  have hsz : w.heap.size + 4 ≤ wd.heap.size:=by have q:=(Array.getElem?_eq_some_iff.1 B_b3.out).1; have q2:=A_b3.out; omega
  have hz4 : b4 < wd.heap.size:=(Array.getElem?_eq_some_iff.1 B_b4.out).1
  have hz5 : b5 < wd.heap.size:=(Array.getElem?_eq_some_iff.1 B_b5.out).1
  have HBY:=Lib.hid (hby.widen (B:=B11) (fun k _ h=>(HB11.out k).2 ⟨(HB1.out k).2 ⟨HK.out.2.1 k (by omega),by omega⟩,by omega⟩))
  clear hby hsz hz4 hz5
  replace B_b0:=zbx B_b0 e9
  replace B_b1:=zbx B_b1 e9
  replace B_b2:=zbx B_b2 e9
  replace B_b3:=zbx B_b3 e9
  replace B_b4:=zbx B_b4 e9
  replace B_b5:=zbx B_b5 e9
  replace R0:=zrx R0 e9
  replace HB:=zrx HB e9
  replace EW:=Lib.hid (EW.out.trans e9)
  clear HSS
  refine ⟨_,rfl,⟨B_b0.out,B_b1.out,B_b5.out⟩,?_⟩
  have HSS : Hid (w9.heap[b0]? = some (.cells #[.slice ca sc.length cc,.slice ua su.length uc,.slice aa sa.length ac,.slice pa sp.length pc] 31 (0,0)) ∧ w9.heap[b1]? = some (.cells #[I gen,.slice na' l.length nc',.bool false,I nc,I nt,I nk,I na,I no,I nn,.slice la pl.length lc,I se,I sn] 41 (0,0)) ∧ w9.heap[b5]? = some (.cells #[I lc2,I lt,I le,I ln] 59 (0,0))):=⟨B_b0.out,B_b1.out,B_b5.out⟩
  refine held_norm (fun K hK=>?_); go_simp; refine hK _ ?_; clear hK K
  refine held_storeW 4 (by kernel_rfl) rfl rfl 31 (.tmp 4) (.tmp 99) rfl b2 rfl [.slice ca sc.length cc,.slice ua su.length uc,.slice aa sa.length ac,.slice pa sp.length pc] (rfl) B_b2 rfl (by kernel_rfl) rfl (fun w10_ M10=>⟨?_,?_⟩)
  ·exact ⟨M10.out.old B_b0.out (Nat.ne_of_lt D_b0_b2.out),M10.out.old B_b1.out (Nat.ne_of_lt D_b1_b2.out),M10.out.old B_b5.out (Nat.ne_of_gt D_b2_b5.out)⟩
  replace B_b0:=zwl M10 B_b0 D_b0_b2
  replace B_b1:=zwl M10 B_b1 D_b1_b2
  replace B_b2:=zwb M10
  replace B_b3:=zwg M10 B_b3 D_b2_b3
  replace B_b4:=zwg M10 B_b4 D_b2_b4
  replace B_b5:=zwg M10 B_b5 D_b2_b5
  replace R0:=zwr M10 R0 N_b2
  replace HB:=zwr M10 HB N_b2
  replace HBY:=zwr M10 HBY N_b2
  replace EW:=zwe M10 EW O_b2
  clear HSS
  have HSS : Hid (w10_.heap[b0]? = some (.cells #[.slice ca sc.length cc,.slice ua su.length uc,.slice aa sa.length ac,.slice pa sp.length pc] 31 (0,0)) ∧ w10_.heap[b1]? = some (.cells #[I gen,.slice na' l.length nc',.bool false,I nc,I nt,I nk,I na,I no,I nn,.slice la pl.length lc,I se,I sn] 41 (0,0)) ∧ w10_.heap[b5]? = some (.cells #[I lc2,I lt,I le,I ln] 59 (0,0))):=⟨B_b0.out,B_b1.out,B_b5.out⟩
  refine held_norm (fun K hK=>?_); go_simp; refine hK _ ?_; clear hK K
  refine held_storeW 5 (by kernel_rfl) rfl rfl 41 (.tmp 5) (.tmp 100) rfl b3 rfl [I gen,.slice na' l.length nc',.bool false,I nc,I nt,I nk,I na,I no,I nn,.slice la pl.length lc,I se,I sn] (rfl) B_b3 rfl (by kernel_rfl) rfl (fun w11_ M11=>⟨?_,?_⟩)
  ·exact ⟨M11.out.old B_b0.out (Nat.ne_of_lt D_b0_b3.out),M11.out.old B_b1.out (Nat.ne_of_lt D_b1_b3.out),M11.out.old B_b5.out (Nat.ne_of_gt D_b3_b5.out)⟩
  replace B_b0:=zwl M11 B_b0 D_b0_b3
  replace B_b1:=zwl M11 B_b1 D_b1_b3
  replace B_b2:=zwl M11 B_b2 D_b2_b3
  replace B_b3:=zwb M11
  replace B_b4:=zwg M11 B_b4 D_b3_b4
  replace B_b5:=zwg M11 B_b5 D_b3_b5
  replace R0:=zwr M11 R0 N_b3
  replace HB:=zwr M11 HB N_b3
  replace HBY:=zwr M11 HBY N_b3
  replace EW:=zwe M11 EW O_b3
  clear HSS
  have HSS : Hid (w11_.heap[b0]? = some (.cells #[.slice ca sc.length cc,.slice ua su.length uc,.slice aa sa.length ac,.slice pa sp.length pc] 31 (0,0)) ∧ w11_.heap[b1]? = some (.cells #[I gen,.slice na' l.length nc',.bool false,I nc,I nt,I nk,I na,I no,I nn,.slice la pl.length lc,I se,I sn] 41 (0,0)) ∧ w11_.heap[b5]? = some (.cells #[I lc2,I lt,I le,I ln] 59 (0,0))):=⟨B_b0.out,B_b1.out,B_b5.out⟩
  refine held_norm (fun K hK=>?_); go_simp; refine hK _ ?_; clear hK K
  refine held_value 6 (by kernel_rfl) rfl rfl _ rfl HSS.out ?_
  refine held_norm (fun K hK=>?_); go_simp; refine hK _ ?_; clear hK K
  refine held_value 7 (by kernel_rfl) rfl rfl _ rfl HSS.out ?_
  refine held_norm (fun K hK=>?_); go_simp; refine hK _ ?_; clear hK K
  refine wpAnyH_done (by kernel_rfl) ?_ _
  clear HSS
  go_wp2
  have z0:=run_box (P:=Tryz.prog) 31 B_b2.out Tryz.underlying31 (by kernel_rfl)
  have z1:=run_box (P:=Tryz.prog) 41 B_b3.out Tryz.underlying41 (by kernel_rfl)
  refine bodyPost_ret (by simp [results,Tryz.results13,asAddr,z0,z1]; rfl) rfl ?_
  have hX : serveM ⟨sc,su,sa,sp⟩ ⟨gen,(b :: l),false,⟨nc,nt,⟨nk,na,no,nn⟩⟩,pl,⟨se,sn⟩⟩ = (⟨sc,su,sa,sp⟩,⟨gen,l,false,⟨nc,nt,⟨nk,na,no,nn⟩⟩,pl,⟨se,sn⟩⟩,ansB ⟨lc2,lt,⟨le,ln⟩⟩,0):=by
   show (if (readRq b).2 ≠ 0 then _ else if (lastAn sa (readRq b).1.client).2 = true ∧ (readRq b).1.token ≤ (lastAn sa (readRq b).1.client).1.token then (if (lastAn sa (readRq b).1.client).1.token = (readRq b).1.token then _ else _) else _) = _
   rw [HRR.out]
   simp only []
   rw [HL.out]
   rw [if_neg (by simp),if_pos ⟨rfl,Int.le_refl _⟩,if_pos rfl]
  have ht:=HT.out
  rw [hX] at ht
  exact ⟨_,rfl,EW.out,ht _ _ _ (Rd.widen (A:=B11) (tup4_rd R0.out.left (sv_rd (v:=⟨gen,l,false,⟨nc,nt,⟨nk,na,no,nn⟩⟩,pl,⟨se,sn⟩⟩) HB.out R0.out.right) (HBY.out)) (fun k _ h=>HK.out.2.2.2 k (I_B1.out k (I_B11.out k h))))⟩
 by_cases hq2 : LB = true ∧ rt < lt
 case pos =>
  obtain ⟨rfl,hlt⟩:=hq2
  have hb2 : (lt == rt) = false:=by simp; omega
  have hb1 : rt ≤ lt:=by omega
  go_wp2_with fail
  clear d1 l1
  refine held_drew (S:=fun w'=>w'.heap[b0]? = some (.cells #[.slice ca sc.length cc,.slice ua su.length uc,.slice aa sa.length ac,.slice pa sp.length pc] 31 (0,0)) ∧ w'.heap[b1]? = some (.cells #[I gen,.slice na' l.length nc',.bool false,I nc,I nt,I nk,I na,I no,I nn,.slice la pl.length lc,I se,I sn] 41 (0,0))) (by kernel_rfl) (fun wd ed _=>?_)
  replace B_b0:=zbx B_b0 ed
  replace B_b1:=zbx B_b1 ed
  replace B_b2:=zbx B_b2 ed
  replace B_b3:=zbx B_b3 ed
  replace B_b4:=zbx B_b4 ed
  replace B_b5:=zbx B_b5 ed
  replace R0:=zrx R0 ed
  replace HB:=zrx HB ed
  replace EW:=Lib.hid (EW.out.trans ed)
  have HSS : Hid (wd.heap[b0]? = some (.cells #[.slice ca sc.length cc,.slice ua su.length uc,.slice aa sa.length ac,.slice pa sp.length pc] 31 (0,0)) ∧ wd.heap[b1]? = some (.cells #[I gen,.slice na' l.length nc',.bool false,I nc,I nt,I nk,I na,I no,I nn,.slice la pl.length lc,I se,I sn] 41 (0,0))):=⟨B_b0.out,B_b1.out⟩
  refine held_loadW 0 rfl (by kernel_rfl) (by kernel_rfl) (by kernel_rfl) (fun _ _ _ _ h=>h) rfl 31 (.tmp 2) rfl b0 rfl (fun w' hS=>hS.1) Tryz.underlying31 (by kernel_rfl) HSS ?_
  refine held_norm (fun K hK=>?_); go_simp; refine hK _ ?_; clear hK K
  refine held_loadW 1 rfl (by kernel_rfl) (by kernel_rfl) (by kernel_rfl) (fun _ _ _ _ h=>h) rfl 41 (.tmp 3) rfl b1 rfl (fun w' hS=>hS.2) Tryz.underlying41 (by kernel_rfl) HSS ?_
  refine held_norm (fun K hK=>?_); go_simp; refine hK _ ?_; clear hK K
  refine held_storeW 2 (by kernel_rfl) rfl rfl 31 (.tmp 4) (.tmp 103) rfl b2 rfl [.slice ca sc.length cc,.slice ua su.length uc,.slice aa sa.length ac,.slice pa sp.length pc] (rfl) B_b2 rfl (by kernel_rfl) rfl (fun w10_ M10=>⟨?_,?_⟩)
  ·exact ⟨M10.out.old B_b0.out (Nat.ne_of_lt D_b0_b2.out),M10.out.old B_b1.out (Nat.ne_of_lt D_b1_b2.out)⟩
  replace B_b0:=zwl M10 B_b0 D_b0_b2
  replace B_b1:=zwl M10 B_b1 D_b1_b2
  replace B_b2:=zwb M10
  replace B_b3:=zwg M10 B_b3 D_b2_b3
  replace B_b4:=zwg M10 B_b4 D_b2_b4
  replace B_b5:=zwg M10 B_b5 D_b2_b5
  replace R0:=zwr M10 R0 N_b2
  replace HB:=zwr M10 HB N_b2
  replace EW:=zwe M10 EW O_b2
  clear HSS
  have HSS : Hid (w10_.heap[b0]? = some (.cells #[.slice ca sc.length cc,.slice ua su.length uc,.slice aa sa.length ac,.slice pa sp.length pc] 31 (0,0)) ∧ w10_.heap[b1]? = some (.cells #[I gen,.slice na' l.length nc',.bool false,I nc,I nt,I nk,I na,I no,I nn,.slice la pl.length lc,I se,I sn] 41 (0,0))):=⟨B_b0.out,B_b1.out⟩
  refine held_norm (fun K hK=>?_); go_simp; refine hK _ ?_; clear hK K
  refine held_storeW 3 (by kernel_rfl) rfl rfl 41 (.tmp 5) (.tmp 104) rfl b3 rfl [I gen,.slice na' l.length nc',.bool false,I nc,I nt,I nk,I na,I no,I nn,.slice la pl.length lc,I se,I sn] (rfl) B_b3 rfl (by kernel_rfl) rfl (fun w11_ M11=>⟨?_,?_⟩)
  ·exact ⟨M11.out.old B_b0.out (Nat.ne_of_lt D_b0_b3.out),M11.out.old B_b1.out (Nat.ne_of_lt D_b1_b3.out)⟩
  replace B_b0:=zwl M11 B_b0 D_b0_b3
  replace B_b1:=zwl M11 B_b1 D_b1_b3
  replace B_b2:=zwl M11 B_b2 D_b2_b3
  replace B_b3:=zwb M11
  replace B_b4:=zwg M11 B_b4 D_b3_b4
  replace B_b5:=zwg M11 B_b5 D_b3_b5
  replace R0:=zwr M11 R0 N_b3
  replace HB:=zwr M11 HB N_b3
  replace EW:=zwe M11 EW O_b3
  clear HSS
  have HSS : Hid (w11_.heap[b0]? = some (.cells #[.slice ca sc.length cc,.slice ua su.length uc,.slice aa sa.length ac,.slice pa sp.length pc] 31 (0,0)) ∧ w11_.heap[b1]? = some (.cells #[I gen,.slice na' l.length nc',.bool false,I nc,I nt,I nk,I na,I no,I nn,.slice la pl.length lc,I se,I sn] 41 (0,0))):=⟨B_b0.out,B_b1.out⟩
  refine held_norm (fun K hK=>?_); go_simp; refine hK _ ?_; clear hK K
  refine held_value 4 (by kernel_rfl) rfl rfl _ rfl HSS.out ?_
  refine held_norm (fun K hK=>?_); go_simp; refine hK _ ?_; clear hK K
  refine held_value 5 (by kernel_rfl) rfl rfl _ rfl HSS.out ?_
  refine held_norm (fun K hK=>?_); go_simp; refine hK _ ?_; clear hK K
  refine wpAnyH_done (by kernel_rfl) ?_ _
  clear HSS
  go_wp2
  have z0:=run_box (P:=Tryz.prog) 31 B_b2.out Tryz.underlying31 (by kernel_rfl)
  have z1:=run_box (P:=Tryz.prog) 41 B_b3.out Tryz.underlying41 (by kernel_rfl)
  refine bodyPost_ret (by simp [results,Tryz.results13,asAddr,z0,z1]; rfl) rfl ?_
  have hX : serveM ⟨sc,su,sa,sp⟩ ⟨gen,(b :: l),false,⟨nc,nt,⟨nk,na,no,nn⟩⟩,pl,⟨se,sn⟩⟩ = (⟨sc,su,sa,sp⟩,⟨gen,l,false,⟨nc,nt,⟨nk,na,no,nn⟩⟩,pl,⟨se,sn⟩⟩,[],0):=by
   show (if (readRq b).2 ≠ 0 then _ else if (lastAn sa (readRq b).1.client).2 = true ∧ (readRq b).1.token ≤ (lastAn sa (readRq b).1.client).1.token then (if (lastAn sa (readRq b).1.client).1.token = (readRq b).1.token then _ else _) else _) = _
   rw [HRR.out]
   simp only []
   rw [HL.out]
   rw [if_neg (by simp),if_pos ⟨rfl,by simp only []; omega⟩,if_neg (by simp only []; omega)]
  have ht:=HT.out
  rw [hX] at ht
  exact ⟨_,rfl,EW.out,ht _ _ _ (Rd.widen (A:=B11) (tup4_rd R0.out.left (sv_rd (v:=⟨gen,l,false,⟨nc,nt,⟨nk,na,no,nn⟩⟩,pl,⟨se,sn⟩⟩) HB.out R0.out.right) (Rd.all fun w=>bytes_nil w)) (fun k _ h=>HK.out.2.2.2 k (I_B1.out k (I_B11.out k h))))⟩
 have hcr : wrongCl ⟨rk,ra,ro,rn⟩ = 0:=by
  have q:=read_right (b:=b) (by rw [HRR.out])
  rw [HRR.out] at q
  exact (wrongRq_parts q).2
 have HCR:=Lib.hid hcr
 clear hcr
 have hsel : LB = false ∨ (LB = true ∧ lt < rt):=by
  cases LB
  ·exact .inl rfl
  ·exact .inr ⟨rfl,by have q1 : ¬ lt = rt:=fun h=>hq1 ⟨rfl,h⟩; have q2 : ¬ rt < lt:=fun h=>hq2 ⟨rfl,h⟩; omega⟩
 clear hq1 hq2
 obtain ⟨de,dn,hD⟩ : ∃ x y,(doCl (namesOf sc) ⟨rk,ra,ro,rn⟩).2 = ⟨x,y⟩:=⟨_,_,rfl⟩
 obtain ⟨PL,hPL⟩ : ∃ x,planCl (namesOf sc) ⟨rk,ra,ro,rn⟩ = x:=⟨_,rfl⟩
 have HD:=Lib.hid hD
 have HPL:=Lib.hid hPL
 clear hD hPL
 rcases hsel with rfl | ⟨rfl,hns⟩
 ·go_wp2_with fail
  clear d1 l1
  refine held_drew (S:=fun w'=>w'.heap[b4]? = some (.cells #[I rc,I rt,I rk,I ra,I ro,I rn] 36 (0,0))) (by kernel_rfl) (fun wd ed _=>?_)
  replace B_b0:=zbx B_b0 ed
  replace B_b1:=zbx B_b1 ed
  replace B_b2:=zbx B_b2 ed
  replace B_b3:=zbx B_b3 ed
  replace B_b4:=zbx B_b4 ed
  replace B_b5:=zbx B_b5 ed
  replace R0:=zrx R0 ed
  replace HB:=zrx HB ed
  replace EW:=Lib.hid (EW.out.trans ed)
  have HSS : Hid (wd.heap[b4]? = some (.cells #[I rc,I rt,I rk,I ra,I ro,I rn] 36 (0,0))):=B_b4.out
  refine held_loadW 0 rfl (by kernel_rfl) (by kernel_rfl) (by kernel_rfl) (fun _ _ _ _ h=>h) rfl 36 (.tmp 9) rfl b4 rfl (fun w' hS=>hS) Tryz.underlying36 (by kernel_rfl) HSS ?_
  refine held_norm (fun K hK=>?_); go_simp; refine hK _ ?_; clear hK K
  refine held_pure 1 rfl (by kernel_rfl) (by kernel_rfl) (by kernel_rfl) (fun _ _ _ _ h=>h) rfl HSS.out (fun K hK=>?_); go_simp; refine hK _ ?_; clear hK K
  refine held_store 2 (by kernel_rfl) rfl rfl 4 (.tmp 106) (.const (.bool true)) rfl b1 2 rfl [.bool true] (rfl) B_b1.out (Nat.le_of_ble_eq_true rfl) (by kernel_rfl) (ones_of rfl) #[I gen,.slice na' l.length nc',.bool true,I nc,I nt,I nk,I na,I no,I nn,.slice la pl.length lc,I se,I sn] ((splN_eq _ _ _ (Nat.le_of_ble_eq_true rfl)).trans rfl) (fun w10_ M10=>⟨?_,?_⟩)
  ·exact M10.out.old B_b4.out (Nat.ne_of_gt D_b1_b4.out)
  replace B_b0:=zwl M10 B_b0 D_b0_b1
  replace B_b1:=zwb M10
  replace B_b2:=zwg M10 B_b2 D_b1_b2
  replace B_b3:=zwg M10 B_b3 D_b1_b3
  replace B_b4:=zwg M10 B_b4 D_b1_b4
  replace B_b5:=zwg M10 B_b5 D_b1_b5
  replace R0:=zwr M10 R0 N_b1
  replace HB:=zwr M10 HB N_b1
  replace EW:=zwe M10 EW O_b1
  clear HSS
  have HSS : Hid (w10_.heap[b4]? = some (.cells #[I rc,I rt,I rk,I ra,I ro,I rn] 36 (0,0))):=B_b4.out
  refine held_norm (fun K hK=>?_); go_simp; refine hK _ ?_; clear hK K
  refine held_pure 3 rfl (by kernel_rfl) (by kernel_rfl) (by kernel_rfl) (fun _ _ _ _ h=>h) rfl HSS.out (fun K hK=>?_); go_simp; refine hK _ ?_; clear hK K
  refine held_store 4 (by kernel_rfl) rfl rfl 36 (.tmp 107) (.tmp 105) rfl b1 3 rfl [I rc,I rt,I rk,I ra,I ro,I rn] (rfl) B_b1.out (Nat.le_of_ble_eq_true rfl) (by kernel_rfl) (ones_of rfl) #[I gen,.slice na' l.length nc',.bool true,I rc,I rt,I rk,I ra,I ro,I rn,.slice la pl.length lc,I se,I sn] ((splN_eq _ _ _ (Nat.le_of_ble_eq_true rfl)).trans rfl) (fun w11_ M11=>⟨?_,?_⟩)
  ·exact M11.out.old B_b4.out (Nat.ne_of_gt D_b1_b4.out)
  replace B_b0:=zwl M11 B_b0 D_b0_b1
  replace B_b1:=zwb M11
  replace B_b2:=zwg M11 B_b2 D_b1_b2
  replace B_b3:=zwg M11 B_b3 D_b1_b3
  replace B_b4:=zwg M11 B_b4 D_b1_b4
  replace B_b5:=zwg M11 B_b5 D_b1_b5
  replace R0:=zwr M11 R0 N_b1
  replace HB:=zwr M11 HB N_b1
  replace EW:=zwe M11 EW O_b1
  clear HSS
  have HSS : Hid (w11_.heap[b4]? = some (.cells #[I rc,I rt,I rk,I ra,I ro,I rn] 36 (0,0))):=B_b4.out
  refine held_norm (fun K hK=>?_); go_simp; refine hK _ ?_; clear hK K
  refine wpAnyH_done (by kernel_rfl) ?_ _
  clear HSS
  have s0:=cell_of (i:=0) B_b0.out rfl
  have d2:=cell_of (i:=2) B_b4.out rfl
  have d3:=cell_of (i:=3) B_b4.out rfl
  have d4:=cell_of (i:=4) B_b4.out rfl
  have d5:=cell_of (i:=5) B_b4.out rfl
  go_wp2_with fail
  clear s0 d2 d3 d4 d5
  refine (rPlanW_any _ sc rk ra ro rn w11_ (st_iff.1 R0.out.left.out).1 HWO.out HCR.out).mono ?_
  rintro e w9 ⟨⟨uu,rfl,hu⟩,e9⟩
  replace hu : Has w11_.heap.size w9 uu (planCl (namesOf sc) ⟨rk,ra,ro,rn⟩):=hu
  rw [HPL.out] at hu
  obtain ⟨ua',uc',rfl⟩:=row_slice hu.writes
  rw [show (doCl (ofCells sc (sc.getD 0 0).toNat) ⟨rk,ra,ro,rn⟩).2 = ⟨de,dn⟩ from HD.out]
  have hsz : w.heap.size + 4 ≤ w11_.heap.size:=by have q:=(Array.getElem?_eq_some_iff.1 B_b3.out).1; have q2:=A_b3.out; omega
  have hz4 : b4 < w11_.heap.size:=(Array.getElem?_eq_some_iff.1 B_b4.out).1
  have hz5 : b5 < w11_.heap.size:=(Array.getElem?_eq_some_iff.1 B_b5.out).1
  have HPN:=Lib.hid (hu.rd.widen (B:=B11) (fun k _ h=>(HB11.out k).2 ⟨(HB1.out k).2 ⟨HK.out.2.1 k (by omega),by omega⟩,by omega⟩))
  clear hu hsz hz4 hz5
  replace B_b0:=zbx B_b0 e9
  replace B_b1:=zbx B_b1 e9
  replace B_b2:=zbx B_b2 e9
  replace B_b3:=zbx B_b3 e9
  replace B_b4:=zbx B_b4 e9
  replace B_b5:=zbx B_b5 e9
  replace R0:=zrx R0 e9
  replace HB:=zrx HB e9
  replace EW:=Lib.hid (EW.out.trans e9)
  go_wp2_with ((with_reducible refine zst (L:=[44,41,31,100]) ?_ ?_); exact rfl)
  unfold Hid
  refine wpList_storeP rfl 27 (.tmp 116) (.tmp 114) rfl b1 9 rfl [.slice ua' PL.length uc'] (rfl) B_b1 rfl (by kernel_rfl) rfl [I gen,.slice na' l.length nc',.bool true,I rc,I rt,I rk,I ra,I ro,I rn,.slice ua' PL.length uc',I se,I sn] rfl (fun w12_ M12=>?_)
  replace B_b0:=zwl M12 B_b0 D_b0_b1
  replace B_b1:=zwb M12
  replace B_b2:=zwg M12 B_b2 D_b1_b2
  replace B_b3:=zwg M12 B_b3 D_b1_b3
  replace B_b4:=zwg M12 B_b4 D_b1_b4
  replace B_b5:=zwg M12 B_b5 D_b1_b5
  replace R0:=zwr M12 R0 N_b1
  replace HB:=zwr M12 HB N_b1
  replace HPN:=zwr M12 HPN N_b1
  replace EW:=zwe M12 EW O_b1
  go_wp2_with ((with_reducible refine zst (L:=[44,41,31,100]) ?_ ?_); exact rfl)
  unfold Hid
  refine wpList_storeP rfl 39 (.tmp 117) (.tmp 115) rfl b1 10 rfl [I de,I dn] (rfl) B_b1 rfl (by kernel_rfl) rfl [I gen,.slice na' l.length nc',.bool true,I rc,I rt,I rk,I ra,I ro,I rn,.slice ua' PL.length uc',I de,I dn] rfl (fun w13_ M13=>?_)
  replace B_b0:=zwl M13 B_b0 D_b0_b1
  replace B_b1:=zwb M13
  replace B_b2:=zwg M13 B_b2 D_b1_b2
  replace B_b3:=zwg M13 B_b3 D_b1_b3
  replace B_b4:=zwg M13 B_b4 D_b1_b4
  replace B_b5:=zwg M13 B_b5 D_b1_b5
  replace R0:=zwr M13 R0 N_b1
  replace HB:=zwr M13 HB N_b1
  replace HPN:=zwr M13 HPN N_b1
  replace EW:=zwe M13 EW O_b1
  go_wp2_with fail
  refine held_drew (S:=fun w'=>w'.heap[b0]? = some (.cells #[.slice ca sc.length cc,.slice ua su.length uc,.slice aa sa.length ac,.slice pa sp.length pc] 31 (0,0)) ∧ w'.heap[b1]? = some (.cells #[I gen,.slice na' l.length nc',.bool true,I rc,I rt,I rk,I ra,I ro,I rn,.slice ua' PL.length uc',I de,I dn] 41 (0,0))) (by kernel_rfl) (fun wd ed _=>?_)
  replace B_b0:=zbx B_b0 ed
  replace B_b1:=zbx B_b1 ed
  replace B_b2:=zbx B_b2 ed
  replace B_b3:=zbx B_b3 ed
  replace B_b4:=zbx B_b4 ed
  replace B_b5:=zbx B_b5 ed
  replace R0:=zrx R0 ed
  replace HB:=zrx HB ed
  replace HPN:=zrx HPN ed
  replace EW:=Lib.hid (EW.out.trans ed)
  have HSS : Hid (wd.heap[b0]? = some (.cells #[.slice ca sc.length cc,.slice ua su.length uc,.slice aa sa.length ac,.slice pa sp.length pc] 31 (0,0)) ∧ wd.heap[b1]? = some (.cells #[I gen,.slice na' l.length nc',.bool true,I rc,I rt,I rk,I ra,I ro,I rn,.slice ua' PL.length uc',I de,I dn] 41 (0,0))):=⟨B_b0.out,B_b1.out⟩
  refine held_loadW 0 rfl (by kernel_rfl) (by kernel_rfl) (by kernel_rfl) (fun _ _ _ _ h=>h) rfl 31 (.tmp 2) rfl b0 rfl (fun w' hS=>hS.1) Tryz.underlying31 (by kernel_rfl) HSS ?_
  refine held_norm (fun K hK=>?_); go_simp; refine hK _ ?_; clear hK K
  refine held_loadW 1 rfl (by kernel_rfl) (by kernel_rfl) (by kernel_rfl) (fun _ _ _ _ h=>h) rfl 41 (.tmp 3) rfl b1 rfl (fun w' hS=>hS.2) Tryz.underlying41 (by kernel_rfl) HSS ?_
  refine held_norm (fun K hK=>?_); go_simp; refine hK _ ?_; clear hK K
  refine held_storeW 2 (by kernel_rfl) rfl rfl 31 (.tmp 4) (.tmp 118) rfl b2 rfl [.slice ca sc.length cc,.slice ua su.length uc,.slice aa sa.length ac,.slice pa sp.length pc] (rfl) B_b2 rfl (by kernel_rfl) rfl (fun w14_ M14=>⟨?_,?_⟩)
  ·exact ⟨M14.out.old B_b0.out (Nat.ne_of_lt D_b0_b2.out),M14.out.old B_b1.out (Nat.ne_of_lt D_b1_b2.out)⟩
  replace B_b0:=zwl M14 B_b0 D_b0_b2
  replace B_b1:=zwl M14 B_b1 D_b1_b2
  replace B_b2:=zwb M14
  replace B_b3:=zwg M14 B_b3 D_b2_b3
  replace B_b4:=zwg M14 B_b4 D_b2_b4
  replace B_b5:=zwg M14 B_b5 D_b2_b5
  replace R0:=zwr M14 R0 N_b2
  replace HB:=zwr M14 HB N_b2
  replace HPN:=zwr M14 HPN N_b2
  replace EW:=zwe M14 EW O_b2
  clear HSS
  have HSS : Hid (w14_.heap[b0]? = some (.cells #[.slice ca sc.length cc,.slice ua su.length uc,.slice aa sa.length ac,.slice pa sp.length pc] 31 (0,0)) ∧ w14_.heap[b1]? = some (.cells #[I gen,.slice na' l.length nc',.bool true,I rc,I rt,I rk,I ra,I ro,I rn,.slice ua' PL.length uc',I de,I dn] 41 (0,0))):=⟨B_b0.out,B_b1.out⟩
  refine held_norm (fun K hK=>?_); go_simp; refine hK _ ?_; clear hK K
  refine held_storeW 3 (by kernel_rfl) rfl rfl 41 (.tmp 5) (.tmp 119) rfl b3 rfl [I gen,.slice na' l.length nc',.bool true,I rc,I rt,I rk,I ra,I ro,I rn,.slice ua' PL.length uc',I de,I dn] (rfl) B_b3 rfl (by kernel_rfl) rfl (fun w15_ M15=>⟨?_,?_⟩)
  ·exact ⟨M15.out.old B_b0.out (Nat.ne_of_lt D_b0_b3.out),M15.out.old B_b1.out (Nat.ne_of_lt D_b1_b3.out)⟩
  replace B_b0:=zwl M15 B_b0 D_b0_b3
  replace B_b1:=zwl M15 B_b1 D_b1_b3
  replace B_b2:=zwl M15 B_b2 D_b2_b3
  replace B_b3:=zwb M15
  replace B_b4:=zwg M15 B_b4 D_b3_b4
  replace B_b5:=zwg M15 B_b5 D_b3_b5
  replace R0:=zwr M15 R0 N_b3
  replace HB:=zwr M15 HB N_b3
  replace HPN:=zwr M15 HPN N_b3
  replace EW:=zwe M15 EW O_b3
  clear HSS
  have HSS : Hid (w15_.heap[b0]? = some (.cells #[.slice ca sc.length cc,.slice ua su.length uc,.slice aa sa.length ac,.slice pa sp.length pc] 31 (0,0)) ∧ w15_.heap[b1]? = some (.cells #[I gen,.slice na' l.length nc',.bool true,I rc,I rt,I rk,I ra,I ro,I rn,.slice ua' PL.length uc',I de,I dn] 41 (0,0))):=⟨B_b0.out,B_b1.out⟩
  refine held_norm (fun K hK=>?_); go_simp; refine hK _ ?_; clear hK K
  refine held_value 4 (by kernel_rfl) rfl rfl _ rfl HSS.out ?_
  refine held_norm (fun K hK=>?_); go_simp; refine hK _ ?_; clear hK K
  refine held_value 5 (by kernel_rfl) rfl rfl _ rfl HSS.out ?_
  refine held_norm (fun K hK=>?_); go_simp; refine hK _ ?_; clear hK K
  refine wpAnyH_done (by kernel_rfl) ?_ _
  clear HSS
  go_wp2
  have z0:=run_box (P:=Tryz.prog) 31 B_b2.out Tryz.underlying31 (by kernel_rfl)
  have z1:=run_box (P:=Tryz.prog) 41 B_b3.out Tryz.underlying41 (by kernel_rfl)
  refine bodyPost_ret (by simp [results,Tryz.results13,asAddr,z0,z1]; rfl) rfl ?_
  have hX : serveM ⟨sc,su,sa,sp⟩ ⟨gen,(b :: l),false,⟨nc,nt,⟨nk,na,no,nn⟩⟩,pl,⟨se,sn⟩⟩ = (⟨sc,su,sa,sp⟩,⟨gen,l,true,⟨rc,rt,⟨rk,ra,ro,rn⟩⟩,PL,⟨de,dn⟩⟩,[],0):=by
   show (if (readRq b).2 ≠ 0 then _ else if (lastAn sa (readRq b).1.client).2 = true ∧ (readRq b).1.token ≤ (lastAn sa (readRq b).1.client).1.token then (if (lastAn sa (readRq b).1.client).1.token = (readRq b).1.token then _ else _) else _) = _
   rw [HRR.out]
   simp only []
   rw [HL.out]
   rw [if_neg (by simp),if_neg (fun h=>by cases h.1),HPL.out,HD.out]
  have ht:=HT.out
  rw [hX] at ht
  exact ⟨_,rfl,EW.out,ht _ _ _ (Rd.widen (A:=B11) (tup4_rd R0.out.left (sv_rd (v:=⟨gen,l,true,⟨rc,rt,⟨rk,ra,ro,rn⟩⟩,PL,⟨de,dn⟩⟩) HB.out HPN.out) (Rd.all fun w=>bytes_nil w)) (fun k _ h=>HK.out.2.2.2 k (I_B1.out k (I_B11.out k h))))⟩
 ·have hb2 : (lt == rt) = false:=by simp; omega
  have hb1 : ¬ rt ≤ lt:=by omega
  go_wp2_with fail
  clear d1 l1
  refine held_drew (S:=fun w'=>w'.heap[b4]? = some (.cells #[I rc,I rt,I rk,I ra,I ro,I rn] 36 (0,0))) (by kernel_rfl) (fun wd ed _=>?_)
  replace B_b0:=zbx B_b0 ed
  replace B_b1:=zbx B_b1 ed
  replace B_b2:=zbx B_b2 ed
  replace B_b3:=zbx B_b3 ed
  replace B_b4:=zbx B_b4 ed
  replace B_b5:=zbx B_b5 ed
  replace R0:=zrx R0 ed
  replace HB:=zrx HB ed
  replace EW:=Lib.hid (EW.out.trans ed)
  have HSS : Hid (wd.heap[b4]? = some (.cells #[I rc,I rt,I rk,I ra,I ro,I rn] 36 (0,0))):=B_b4.out
  refine held_loadW 0 rfl (by kernel_rfl) (by kernel_rfl) (by kernel_rfl) (fun _ _ _ _ h=>h) rfl 36 (.tmp 9) rfl b4 rfl (fun w' hS=>hS) Tryz.underlying36 (by kernel_rfl) HSS ?_
  refine held_norm (fun K hK=>?_); go_simp; refine hK _ ?_; clear hK K
  refine held_pure 1 rfl (by kernel_rfl) (by kernel_rfl) (by kernel_rfl) (fun _ _ _ _ h=>h) rfl HSS.out (fun K hK=>?_); go_simp; refine hK _ ?_; clear hK K
  refine held_store 2 (by kernel_rfl) rfl rfl 4 (.tmp 106) (.const (.bool true)) rfl b1 2 rfl [.bool true] (rfl) B_b1.out (Nat.le_of_ble_eq_true rfl) (by kernel_rfl) (ones_of rfl) #[I gen,.slice na' l.length nc',.bool true,I nc,I nt,I nk,I na,I no,I nn,.slice la pl.length lc,I se,I sn] ((splN_eq _ _ _ (Nat.le_of_ble_eq_true rfl)).trans rfl) (fun w10_ M10=>⟨?_,?_⟩)
  ·exact M10.out.old B_b4.out (Nat.ne_of_gt D_b1_b4.out)
  replace B_b0:=zwl M10 B_b0 D_b0_b1
  replace B_b1:=zwb M10
  replace B_b2:=zwg M10 B_b2 D_b1_b2
  replace B_b3:=zwg M10 B_b3 D_b1_b3
  replace B_b4:=zwg M10 B_b4 D_b1_b4
  replace B_b5:=zwg M10 B_b5 D_b1_b5
  replace R0:=zwr M10 R0 N_b1
  replace HB:=zwr M10 HB N_b1
  replace EW:=zwe M10 EW O_b1
  clear HSS
  have HSS : Hid (w10_.heap[b4]? = some (.cells #[I rc,I rt,I rk,I ra,I ro,I rn] 36 (0,0))):=B_b4.out
  refine held_norm (fun K hK=>?_); go_simp; refine hK _ ?_; clear hK K
  refine held_pure 3 rfl (by kernel_rfl) (by kernel_rfl) (by kernel_rfl) (fun _ _ _ _ h=>h) rfl HSS.out (fun K hK=>?_); go_simp; refine hK _ ?_; clear hK K
  refine held_store 4 (by kernel_rfl) rfl rfl 36 (.tmp 107) (.tmp 105) rfl b1 3 rfl [I rc,I rt,I rk,I ra,I ro,I rn] (rfl) B_b1.out (Nat.le_of_ble_eq_true rfl) (by kernel_rfl) (ones_of rfl) #[I gen,.slice na' l.length nc',.bool true,I rc,I rt,I rk,I ra,I ro,I rn,.slice la pl.length lc,I se,I sn] ((splN_eq _ _ _ (Nat.le_of_ble_eq_true rfl)).trans rfl) (fun w11_ M11=>⟨?_,?_⟩)
  ·exact M11.out.old B_b4.out (Nat.ne_of_gt D_b1_b4.out)
  replace B_b0:=zwl M11 B_b0 D_b0_b1
  replace B_b1:=zwb M11
  replace B_b2:=zwg M11 B_b2 D_b1_b2
  replace B_b3:=zwg M11 B_b3 D_b1_b3
  replace B_b4:=zwg M11 B_b4 D_b1_b4
  replace B_b5:=zwg M11 B_b5 D_b1_b5
  replace R0:=zwr M11 R0 N_b1
  replace HB:=zwr M11 HB N_b1
  replace EW:=zwe M11 EW O_b1
  clear HSS
  have HSS : Hid (w11_.heap[b4]? = some (.cells #[I rc,I rt,I rk,I ra,I ro,I rn] 36 (0,0))):=B_b4.out
  refine held_norm (fun K hK=>?_); go_simp; refine hK _ ?_; clear hK K
  refine wpAnyH_done (by kernel_rfl) ?_ _
  clear HSS
  have s0:=cell_of (i:=0) B_b0.out rfl
  have d2:=cell_of (i:=2) B_b4.out rfl
  have d3:=cell_of (i:=3) B_b4.out rfl
  have d4:=cell_of (i:=4) B_b4.out rfl
  have d5:=cell_of (i:=5) B_b4.out rfl
  go_wp2_with fail
  clear s0 d2 d3 d4 d5
  refine (rPlanW_any _ sc rk ra ro rn w11_ (st_iff.1 R0.out.left.out).1 HWO.out HCR.out).mono ?_
  rintro e w9 ⟨⟨uu,rfl,hu⟩,e9⟩
  replace hu : Has w11_.heap.size w9 uu (planCl (namesOf sc) ⟨rk,ra,ro,rn⟩):=hu
  rw [HPL.out] at hu
  obtain ⟨ua',uc',rfl⟩:=row_slice hu.writes
  rw [show (doCl (ofCells sc (sc.getD 0 0).toNat) ⟨rk,ra,ro,rn⟩).2 = ⟨de,dn⟩ from HD.out]
  have hsz : w.heap.size + 4 ≤ w11_.heap.size:=by have q:=(Array.getElem?_eq_some_iff.1 B_b3.out).1; have q2:=A_b3.out; omega
  have hz4 : b4 < w11_.heap.size:=(Array.getElem?_eq_some_iff.1 B_b4.out).1
  have hz5 : b5 < w11_.heap.size:=(Array.getElem?_eq_some_iff.1 B_b5.out).1
  have HPN:=Lib.hid (hu.rd.widen (B:=B11) (fun k _ h=>(HB11.out k).2 ⟨(HB1.out k).2 ⟨HK.out.2.1 k (by omega),by omega⟩,by omega⟩))
  clear hu hsz hz4 hz5
  replace B_b0:=zbx B_b0 e9
  replace B_b1:=zbx B_b1 e9
  replace B_b2:=zbx B_b2 e9
  replace B_b3:=zbx B_b3 e9
  replace B_b4:=zbx B_b4 e9
  replace B_b5:=zbx B_b5 e9
  replace R0:=zrx R0 e9
  replace HB:=zrx HB e9
  replace EW:=Lib.hid (EW.out.trans e9)
  go_wp2_with ((with_reducible refine zst (L:=[44,41,31,100]) ?_ ?_); exact rfl)
  unfold Hid
  refine wpList_storeP rfl 27 (.tmp 116) (.tmp 114) rfl b1 9 rfl [.slice ua' PL.length uc'] (rfl) B_b1 rfl (by kernel_rfl) rfl [I gen,.slice na' l.length nc',.bool true,I rc,I rt,I rk,I ra,I ro,I rn,.slice ua' PL.length uc',I se,I sn] rfl (fun w12_ M12=>?_)
  replace B_b0:=zwl M12 B_b0 D_b0_b1
  replace B_b1:=zwb M12
  replace B_b2:=zwg M12 B_b2 D_b1_b2
  replace B_b3:=zwg M12 B_b3 D_b1_b3
  replace B_b4:=zwg M12 B_b4 D_b1_b4
  replace B_b5:=zwg M12 B_b5 D_b1_b5
  replace R0:=zwr M12 R0 N_b1
  replace HB:=zwr M12 HB N_b1
  replace HPN:=zwr M12 HPN N_b1
  replace EW:=zwe M12 EW O_b1
  go_wp2_with ((with_reducible refine zst (L:=[44,41,31,100]) ?_ ?_); exact rfl)
  unfold Hid
  refine wpList_storeP rfl 39 (.tmp 117) (.tmp 115) rfl b1 10 rfl [I de,I dn] (rfl) B_b1 rfl (by kernel_rfl) rfl [I gen,.slice na' l.length nc',.bool true,I rc,I rt,I rk,I ra,I ro,I rn,.slice ua' PL.length uc',I de,I dn] rfl (fun w13_ M13=>?_)
  replace B_b0:=zwl M13 B_b0 D_b0_b1
  replace B_b1:=zwb M13
  replace B_b2:=zwg M13 B_b2 D_b1_b2
  replace B_b3:=zwg M13 B_b3 D_b1_b3
  replace B_b4:=zwg M13 B_b4 D_b1_b4
  replace B_b5:=zwg M13 B_b5 D_b1_b5
  replace R0:=zwr M13 R0 N_b1
  replace HB:=zwr M13 HB N_b1
  replace HPN:=zwr M13 HPN N_b1
  replace EW:=zwe M13 EW O_b1
  go_wp2_with fail
  refine held_drew (S:=fun w'=>w'.heap[b0]? = some (.cells #[.slice ca sc.length cc,.slice ua su.length uc,.slice aa sa.length ac,.slice pa sp.length pc] 31 (0,0)) ∧ w'.heap[b1]? = some (.cells #[I gen,.slice na' l.length nc',.bool true,I rc,I rt,I rk,I ra,I ro,I rn,.slice ua' PL.length uc',I de,I dn] 41 (0,0))) (by kernel_rfl) (fun wd ed _=>?_)
  replace B_b0:=zbx B_b0 ed
  replace B_b1:=zbx B_b1 ed
  replace B_b2:=zbx B_b2 ed
  replace B_b3:=zbx B_b3 ed
  replace B_b4:=zbx B_b4 ed
  replace B_b5:=zbx B_b5 ed
  replace R0:=zrx R0 ed
  replace HB:=zrx HB ed
  replace HPN:=zrx HPN ed
  replace EW:=Lib.hid (EW.out.trans ed)
  have HSS : Hid (wd.heap[b0]? = some (.cells #[.slice ca sc.length cc,.slice ua su.length uc,.slice aa sa.length ac,.slice pa sp.length pc] 31 (0,0)) ∧ wd.heap[b1]? = some (.cells #[I gen,.slice na' l.length nc',.bool true,I rc,I rt,I rk,I ra,I ro,I rn,.slice ua' PL.length uc',I de,I dn] 41 (0,0))):=⟨B_b0.out,B_b1.out⟩
  refine held_loadW 0 rfl (by kernel_rfl) (by kernel_rfl) (by kernel_rfl) (fun _ _ _ _ h=>h) rfl 31 (.tmp 2) rfl b0 rfl (fun w' hS=>hS.1) Tryz.underlying31 (by kernel_rfl) HSS ?_
  refine held_norm (fun K hK=>?_); go_simp; refine hK _ ?_; clear hK K
  refine held_loadW 1 rfl (by kernel_rfl) (by kernel_rfl) (by kernel_rfl) (fun _ _ _ _ h=>h) rfl 41 (.tmp 3) rfl b1 rfl (fun w' hS=>hS.2) Tryz.underlying41 (by kernel_rfl) HSS ?_
  refine held_norm (fun K hK=>?_); go_simp; refine hK _ ?_; clear hK K
  refine held_storeW 2 (by kernel_rfl) rfl rfl 31 (.tmp 4) (.tmp 118) rfl b2 rfl [.slice ca sc.length cc,.slice ua su.length uc,.slice aa sa.length ac,.slice pa sp.length pc] (rfl) B_b2 rfl (by kernel_rfl) rfl (fun w14_ M14=>⟨?_,?_⟩)
  ·exact ⟨M14.out.old B_b0.out (Nat.ne_of_lt D_b0_b2.out),M14.out.old B_b1.out (Nat.ne_of_lt D_b1_b2.out)⟩
  replace B_b0:=zwl M14 B_b0 D_b0_b2
  replace B_b1:=zwl M14 B_b1 D_b1_b2
  replace B_b2:=zwb M14
  replace B_b3:=zwg M14 B_b3 D_b2_b3
  replace B_b4:=zwg M14 B_b4 D_b2_b4
  replace B_b5:=zwg M14 B_b5 D_b2_b5
  replace R0:=zwr M14 R0 N_b2
  replace HB:=zwr M14 HB N_b2
  replace HPN:=zwr M14 HPN N_b2
  replace EW:=zwe M14 EW O_b2
  clear HSS
  have HSS : Hid (w14_.heap[b0]? = some (.cells #[.slice ca sc.length cc,.slice ua su.length uc,.slice aa sa.length ac,.slice pa sp.length pc] 31 (0,0)) ∧ w14_.heap[b1]? = some (.cells #[I gen,.slice na' l.length nc',.bool true,I rc,I rt,I rk,I ra,I ro,I rn,.slice ua' PL.length uc',I de,I dn] 41 (0,0))):=⟨B_b0.out,B_b1.out⟩
  refine held_norm (fun K hK=>?_); go_simp; refine hK _ ?_; clear hK K
  refine held_storeW 3 (by kernel_rfl) rfl rfl 41 (.tmp 5) (.tmp 119) rfl b3 rfl [I gen,.slice na' l.length nc',.bool true,I rc,I rt,I rk,I ra,I ro,I rn,.slice ua' PL.length uc',I de,I dn] (rfl) B_b3 rfl (by kernel_rfl) rfl (fun w15_ M15=>⟨?_,?_⟩)
  ·exact ⟨M15.out.old B_b0.out (Nat.ne_of_lt D_b0_b3.out),M15.out.old B_b1.out (Nat.ne_of_lt D_b1_b3.out)⟩
  replace B_b0:=zwl M15 B_b0 D_b0_b3
  replace B_b1:=zwl M15 B_b1 D_b1_b3
  replace B_b2:=zwl M15 B_b2 D_b2_b3
  replace B_b3:=zwb M15
  replace B_b4:=zwg M15 B_b4 D_b3_b4
  replace B_b5:=zwg M15 B_b5 D_b3_b5
  replace R0:=zwr M15 R0 N_b3
  replace HB:=zwr M15 HB N_b3
  replace HPN:=zwr M15 HPN N_b3
  replace EW:=zwe M15 EW O_b3
  clear HSS
  have HSS : Hid (w15_.heap[b0]? = some (.cells #[.slice ca sc.length cc,.slice ua su.length uc,.slice aa sa.length ac,.slice pa sp.length pc] 31 (0,0)) ∧ w15_.heap[b1]? = some (.cells #[I gen,.slice na' l.length nc',.bool true,I rc,I rt,I rk,I ra,I ro,I rn,.slice ua' PL.length uc',I de,I dn] 41 (0,0))):=⟨B_b0.out,B_b1.out⟩
  refine held_norm (fun K hK=>?_); go_simp; refine hK _ ?_; clear hK K
  refine held_value 4 (by kernel_rfl) rfl rfl _ rfl HSS.out ?_
  refine held_norm (fun K hK=>?_); go_simp; refine hK _ ?_; clear hK K
  refine held_value 5 (by kernel_rfl) rfl rfl _ rfl HSS.out ?_
  refine held_norm (fun K hK=>?_); go_simp; refine hK _ ?_; clear hK K
  refine wpAnyH_done (by kernel_rfl) ?_ _
  clear HSS
  go_wp2
  have z0:=run_box (P:=Tryz.prog) 31 B_b2.out Tryz.underlying31 (by kernel_rfl)
  have z1:=run_box (P:=Tryz.prog) 41 B_b3.out Tryz.underlying41 (by kernel_rfl)
  refine bodyPost_ret (by simp [results,Tryz.results13,asAddr,z0,z1]; rfl) rfl ?_
  have hX : serveM ⟨sc,su,sa,sp⟩ ⟨gen,(b :: l),false,⟨nc,nt,⟨nk,na,no,nn⟩⟩,pl,⟨se,sn⟩⟩ = (⟨sc,su,sa,sp⟩,⟨gen,l,true,⟨rc,rt,⟨rk,ra,ro,rn⟩⟩,PL,⟨de,dn⟩⟩,[],0):=by
   show (if (readRq b).2 ≠ 0 then _ else if (lastAn sa (readRq b).1.client).2 = true ∧ (readRq b).1.token ≤ (lastAn sa (readRq b).1.client).1.token then (if (lastAn sa (readRq b).1.client).1.token = (readRq b).1.token then _ else _) else _) = _
   rw [HRR.out]
   simp only []
   rw [HL.out]
   rw [if_neg (by simp),if_neg (fun h=>by have q:=h.2; simp only [] at q; omega),HPL.out,HD.out]
  have ht:=HT.out
  rw [hX] at ht
  exact ⟨_,rfl,EW.out,ht _ _ _ (Rd.widen (A:=B11) (tup4_rd R0.out.left (sv_rd (v:=⟨gen,l,true,⟨rc,rt,⟨rk,ra,ro,rn⟩⟩,PL,⟨de,dn⟩⟩) HB.out HPN.out) (Rd.all fun w=>bytes_nil w)) (fun k _ h=>HK.out.2.2.2 k (I_B1.out k (I_B11.out k h))))⟩

end Go.Proofs.YtdmipnnfooleladGreat

namespace Go.Proofs.YtdmipnnfooleladGreat
open Go.RowKit Go.Mk
set_option maxRecDepth 100000

/-- The cells of a client, of a server. -/
abbrev cells6c (c : Cn) (calls box got : Value) : List Value:=[calls,I c.at_,.bool c.sent,I c.gen,box,got]
abbrev cells12 (v : Sv) (box plan : Value) : List Value:=[I v.gen,box,.bool v.busy,I v.now.client,I v.now.token,I v.now.call.kind,I v.now.call.name,I v.now.call.other,I v.now.call.n,plan,I v.says.err,I v.says.n]

theorem refClientGo_keeps (c : Cn) (calls box got : Value) (me gen2 : Int) (up : Bool) (w : World) (A : Nat → Prop)
  (hc : Rd A (fun w=>RowOf 4 elCl w calls c.calls) w) (hb : Rd A (fun w=>RowOf 1 elBs w box c.box) w) (hg : Rd A (fun w=>RowOf 2 elRp w got c.got) w) (h0 : 0 ≤ c.at_) (h1 : c.at_ ≤ 1000000) (hgl : c.got.length ≤ 1000) :
  Keeps Tryz.prog 45 #[.agg (cells6c c calls box got).toArray,I me,I gen2,.bool up] w A (fun r w'=>Tup3 elCn (goCn c me gen2 up).1 (goCn c me gen2 up).2.1 (goCn c me gen2 up).2.2 r w'):=by
 obtain ⟨cl,at_,sent,gen,bl,gl⟩:=c
 cases bl with
 | nil=>exact refClientGo_idle cl at_ sent gen gl calls box got me gen2 up w A hc hb hg h0
 | cons b l=>exact refClientGo_hear cl at_ sent gen b l gl calls box got me gen2 up w A hc hb hg h0 h1 hgl

theorem refServe_keeps (s : St) (v : Sv) (c u a p box plan : Value) (w : World) (A : Nat → Prop) (hs : Rd A (fun w=>elSt w [c,u,a,p] s) w) (hb : Rd A (fun w=>RowOf 1 elBs w box v.box) w) (hp : Rd A (fun w=>Writes w plan v.plan) w)
  (h1 : s.cells.length * 8 ≤ 140737488355328) (h2 : (1 + s.undo.length) * 16 ≤ 140737488355328) (h3 : s.answers.length ≤ 1000) (h4 : s.past.length ≤ 1000000) (hw : v.busy = false → Weak s.cells) :
  Keeps Tryz.prog 13 #[.agg #[c,u,a,p],.agg (cells12 v box plan).toArray] w A (fun r w'=>Tup4 (serveM s v).1 (serveM s v).2.1 (serveM s v).2.2.1 (serveM s v).2.2.2 r w'):=by
 obtain ⟨sc,su,sa,sp⟩:=s
 obtain ⟨gen,bl,busy,⟨nc,nt,⟨nk,na,no,nn⟩⟩,pl,⟨se,sn⟩⟩:=v
 cases busy with
 | true =>
  cases pl with
  | nil=>exact refServe_done sc su sa sp gen bl nc nt nk na no nn se sn c u a p box plan w A hs hb hp h3 h4
  | cons q l=>exact refServe_write sc su sa sp gen bl nc nt nk na no nn se sn q.1 q.2 l c u a p box plan w A hs hb hp h1 h2
 | false =>
  cases bl with
  | nil=>exact refServe_wait sc su sa sp gen nc nt nk na no nn se sn pl c u a p box plan w A hs hb hp
  | cons b l=>exact refServe_take sc su sa sp gen nc nt nk na no nn se sn b l pl c u a p box plan w A hs hb hp (hw rfl)

end Go.Proofs.YtdmipnnfooleladGreat

namespace Go.Proofs.YtdmipnnfooleladGreat
open Go.RowKit Go.Mk
set_option maxRecDepth 100000

/-- A server's box and plan in memory of their own. -/
structure OwnSv (base : Nat) (w : World) (box plan : Value) (v : Sv) : Prop where
 box : OwnBox base w box v.box
 plan : w.ownsRow base 79 2 plan v.plan.length (cells2 v.plan)
theorem OwnSv.ext {base : Nat} {w w' : World} {box plan : Value} {v : Sv} (h : OwnSv base w box plan v) (he : Ext w w') : OwnSv base w' box plan v:=⟨h.box.ext he,owns_ext h.plan he⟩
theorem OwnSv.low {base b2 : Nat} {w : World} {box plan : Value} {v : Sv} (h : OwnSv base w box plan v) (hb : b2 ≤ base) : OwnSv b2 w box plan v:=⟨h.box.low hb,owns_base h.plan hb⟩
theorem OwnBox.slice {base : Nat} {w : World} {u : Value} {bl : List (List UInt8)} (h : OwnBox base w u bl) : ∃ ao cap,u = .slice ao bl.length cap:=by
 obtain ⟨evs,h1,_⟩:=h
 exact own_slice h1

/-- How much a server may hold. -/
def SmallV (v : Sv) : Prop:=v.box.length ≤ 1000 ∧ (∀ b ∈ v.box,b.length ≤ 140737488355328) ∧ v.plan.length ≤ 1000

set_option maxHeartbeats 2000000 in
theorem OwnV_any (v : Sv) (box plan : Value) (w : World) (hb : RowOf 1 elBs w box v.box) (hp : Writes w plan v.plan) (hs : SmallV v) :
  Gives Tryz.prog 11 #[.agg (cells12 v box plan).toArray] w fun r w'=>∃ box' plan',r = .agg (cells12 v box' plan').toArray ∧ OwnSv w.heap.size w' box' plan' v ∧ ∃ g,box' = .slice (some ⟨g,0,none⟩) v.box.length v.box.length:=by
 unfold Gives
 have HS:=Lib.hid hs
 clear hs
 obtain ⟨xa,xc,rfl⟩:=rowOf_slice hb
 obtain ⟨la,lc,rfl⟩:=row_slice hp
 have HB:=Lib.hid hb
 have HP:=Lib.hid hp
 clear hb hp
 have EW:=Lib.hid (Ext.refl w)
 go_enter Tryz.func11,Tryz.ntmps11
 go_wp2_with ((with_reducible refine zst (L:=[44,41,31,100]) ?_ ?_); exact rfl)
 unfold Hid
 refine wpList_boxB rfl 41 (.tmp 0) rfl #[I v.gen,.slice xa v.box.length xc,.bool v.busy,I v.now.client,I v.now.token,I v.now.call.kind,I v.now.call.name,I v.now.call.other,I v.now.call.n,.slice la v.plan.length lc,I v.says.err,I v.says.n] rfl (fun b0 w1_ M1=>?_)
 have B_b0:=zmb M1
 replace EW:=zet EW M1
 have O_b0 : Hid (w.heap.size ≤ b0):=by unfold Hid; have q:=M1.out.at_; omega
 go_wp2_with ((with_reducible refine zst (L:=[44,41,31,100]) ?_ ?_); exact rfl)
 unfold Hid
 refine wpList_allocB rfl 41 #[I 0,.slice none 0 0,.bool false,I 0,I 0,I 0,I 0,I 0,I 0,.slice none 0 0,I 0,I 0] (by kernel_rfl) (fun b1 w2_ M2=>?_)
 have D_b0_b1:=zld B_b0 M2
 replace B_b0:=zmo M2 B_b0
 have B_b1:=zmb M2
 replace EW:=zet EW M2
 have O_b1 : Hid (w.heap.size ≤ b1):=by unfold Hid; have q:=D_b0_b1.out; have q2:=O_b0.out; omega
 have c1:=cell_of (i:=1) B_b0.out rfl
 go_wp2_with fail
 clear c1
 refine (ownBox_any _ v.box w2_ (HB.out.ext monoBs EW.out) (by have:=HS.out.1; omega) HS.out.2.1).to fun r w2 e2 hr=>?_
 obtain ⟨hr,yg,rfl⟩:=hr
 have OB:=Lib.hid (hr.low (b2:=w.heap.size) EW.out.size)
 clear hr
 replace B_b0:=zbx B_b0 e2
 replace B_b1:=zbx B_b1 e2
 replace EW:=Lib.hid (EW.out.trans e2)
 clear e2
 go_wp2_with ((with_reducible refine zst (L:=[44,41,31,100]) ?_ ?_); exact rfl)
 unfold Hid
 refine wpList_storeP rfl 32 (.tmp 6) (.tmp 5) rfl b0 1 rfl [.slice (some ⟨yg,0,none⟩) v.box.length v.box.length] (rfl) B_b0 rfl (by kernel_rfl) rfl [I v.gen,.slice (some ⟨yg,0,none⟩) v.box.length v.box.length,.bool v.busy,I v.now.client,I v.now.token,I v.now.call.kind,I v.now.call.name,I v.now.call.other,I v.now.call.n,.slice la v.plan.length lc,I v.says.err,I v.says.n] rfl (fun w3_ M3=>?_)
 replace OB:=Lib.hid (OB.out.kept M3.out.grown B_b0.out (by decide) (by decide))
 replace B_b0:=zwb M3
 replace B_b1:=zwg M3 B_b1 D_b0_b1
 replace EW:=zwe M3 EW O_b0
 have c9:=cell_of (i:=9) B_b0.out rfl
 go_wp2_with fail
 clear c9
 refine (own_writesV _ v.plan w3_ (HP.out.ext EW.out) (by have:=HS.out.2.2; omega)).to fun r w4 e4 hr=>?_
 obtain ⟨za,zc,rfl⟩:=own_slice hr
 have OP:=Lib.hid (owns_base hr (b2:=w.heap.size) EW.out.size)
 clear hr
 replace B_b0:=zbx B_b0 e4
 replace B_b1:=zbx B_b1 e4
 replace OB:=Lib.hid (OB.out.ext e4)
 replace EW:=Lib.hid (EW.out.trans e4)
 clear e4
 go_wp2_with ((with_reducible refine zst (L:=[44,41,31,100]) ?_ ?_); exact rfl)
 unfold Hid
 refine wpList_storeP rfl 27 (.tmp 10) (.tmp 9) rfl b0 9 rfl [.slice za v.plan.length zc] (rfl) B_b0 rfl (by kernel_rfl) rfl [I v.gen,.slice (some ⟨yg,0,none⟩) v.box.length v.box.length,.bool v.busy,I v.now.client,I v.now.token,I v.now.call.kind,I v.now.call.name,I v.now.call.other,I v.now.call.n,.slice za v.plan.length zc,I v.says.err,I v.says.n] rfl (fun w4_ M4=>?_)
 replace OB:=Lib.hid (OB.out.kept M4.out.grown B_b0.out (by decide) (by decide))
 replace OP:=Lib.hid (OP.out.kept M4.out.grown (.inr (own_ne OP.out B_b0.out (by decide))))
 replace B_b0:=zwb M4
 replace B_b1:=zwg M4 B_b1 D_b0_b1
 replace EW:=zwe M4 EW O_b0
 go_wp2_with ((with_reducible refine zst (L:=[44,41,31,100]) ?_ ?_); exact rfl)
 unfold Hid
 refine wpList_loadW rfl 41 (.tmp 1) rfl b0 rfl B_b0 Tryz.underlying41 (by kernel_rfl) (fun v11 H_v11=>?_)
 go_wp2_with ((with_reducible refine zst (L:=[44,41,31,100]) ?_ ?_); exact rfl)
 unfold Hid
 refine wpList_storeW rfl 41 (.tmp 2) (.tmp 11) rfl b1 rfl _ (zcv H_v11) B_b1 rfl (by kernel_rfl) rfl (fun w5_ M5=>?_)
 replace OB:=Lib.hid (OB.out.kept M5.out.grown B_b1.out (by decide) (by decide))
 replace OP:=Lib.hid (OP.out.kept M5.out.grown (.inr (own_ne OP.out B_b1.out (by decide))))
 replace B_b0:=zwl M5 B_b0 D_b0_b1
 replace B_b1:=zwb M5
 replace EW:=zwe M5 EW O_b1
 go_wp2
 have z0:=run_box (P:=Tryz.prog) 41 B_b1.out Tryz.underlying41 (by kernel_rfl)
 refine bodyPost_ret (by simp [results,Tryz.results11,asAddr,z0,Act.put]; rfl) rfl ?_
 exact ⟨_,rfl,EW.out,_,_,rfl,⟨OB.out,OP.out⟩,_,rfl⟩

end Go.Proofs.YtdmipnnfooleladGreat

namespace Go.Proofs.YtdmipnnfooleladGreat
open Go.RowKit Go.Mk
set_option maxRecDepth 100000

/-- What is in memory of its own is described wherever no box lies. -/
theorem OwnSv.rd {base : Nat} {w : World} {box plan : Value} {v : Sv} {B : Nat → Prop} (h : OwnSv base w box plan v) (hB : ∀ g,base ≤ g → (∀ cs t,w.heap[g]? = some (.cells cs t (0,0)) → t = 24 ∨ t = 5 ∨ t = 79) → B g) :
  Rd B (fun w=>RowOf 1 elBs w box v.box) w ∧ Rd B (fun w=>Writes w plan v.plan) w:=by
 refine ⟨h.box.rd fun g hg ht=>hB g hg fun cs t hc=>?_,rd_owns_in h.plan fun g hg=>hB g (h.plan.lt g hg).1 fun cs t hc=>?_⟩
 ·rcases ht cs t hc with e | e
  ·exact .inl e
  ·exact .inr (.inl e)
 ·by_cases hne : (79 : Nat) = t
  ·exact .inr (.inr hne.symm)
  ·exact absurd hg (own_ne h.plan hc hne)
theorem OwnBox.snoc {base : Nat} {w : World} {u ev : Value} {bl : List (List UInt8)} {b : List UInt8} {evs : List Value} (h : ∀ (i : Nat) (b : List UInt8),bl[i]? = some b → ∃ ev,evs[i]? = some ev ∧ w.ownsRow base 5 1 ev b.length (b.map U)) (hl : evs.length = bl.length) (hu : w.ownsRow base 24 1 u (bl.length + 1) (evs ++ [ev])) (he : w.ownsRow base 5 1 ev b.length (b.map U)) : OwnBox base w u (bl ++ [b]):=by
 refine ⟨evs ++ [ev],by rw [List.length_append]; exact hu,fun i x hx=>?_⟩
 by_cases hi : i < bl.length
 ·rw [List.getElem?_append_left hi] at hx
  obtain ⟨e2,h3,h4⟩:=h i x hx
  exact ⟨e2,by rw [List.getElem?_append_left (by omega)]; exact h3,h4⟩
 ·rw [List.getElem?_append_right (by omega)] at hx
  have h0 : i - bl.length = 0:=by
   have:=(List.getElem?_eq_some_iff.1 hx).1
   simp at this
   omega
  rw [h0] at hx
  simp at hx
  subst hx
  exact ⟨ev,by rw [List.getElem?_append_right (by omega),show i - evs.length = 0 by omega]; rfl,he⟩
theorem OwnBox.list {base : Nat} {w : World} {u : Value} {bl : List (List UInt8)} (h : OwnBox base w u bl) : ∃ evs : List Value,evs.length = bl.length ∧ w.ownsRow base 24 1 u bl.length evs ∧ ∀ (i : Nat) (b : List UInt8),bl[i]? = some b → ∃ ev,evs[i]? = some ev ∧ w.ownsRow base 5 1 ev b.length (b.map U):=by
 obtain ⟨evs,h1,h2⟩:=h
 exact ⟨evs,by have:=h1.1; simpa using this,h1,h2⟩
theorem monoOwnBox (base : Nat) (bl : List (List UInt8)) : ∀ v,MonoP (fun w=>OwnBox base w v bl):=fun _ _ _ he h=>h.ext he

set_option maxHeartbeats 4000000 in
theorem Come_own (v : Sv) (box plan bv : Value) (b : List UInt8) (w : World) (hb : RowOf 1 elBs w box v.box) (hp : Writes w plan v.plan) (hv : Bytes w bv b) (hs : SmallV v) (hbl : b.length ≤ 140737488355328) :
  Gives Tryz.prog 8 #[.agg (cells12 v box plan).toArray,bv] w fun r w'=>∃ box' plan',r = .tuple #[.agg (cells12 (comeSv v b).1 box' plan').toArray,I (comeSv v b).2] ∧ OwnSv w.heap.size w' box' plan' (comeSv v b).1:=by
 unfold Gives
 have HS:=Lib.hid hs
 have HBL:=Lib.hid hbl
 clear hs hbl
 obtain ⟨xa,xc,rfl⟩:=rowOf_slice hb
 obtain ⟨la,lc,rfl⟩:=row_slice hp
 obtain ⟨va,vc,rfl⟩:=row_slice hv
 have HB:=Lib.hid hb
 have HP:=Lib.hid hp
 have HV:=Lib.hid hv
 clear hb hp hv
 have EW:=Lib.hid (Ext.refl w)
 obtain ⟨i0,hi,hz0,hz1,hz2⟩:=info_parts Tryz.infoBs
 have HI:=Lib.hid hi
 clear hi
 have hX : comeSv v b = if 3 ≤ v.box.length then (v,9) else ({ v with box:=v.box ++ [b] },0):=rfl
 rw [hX]
 clear hX
 by_cases h3 : 3 ≤ v.box.length
 case pos =>
  rw [if_pos h3]
  have h3i : (3 : Int) ≤ (v.box.length : Int):=by omega
  clear h3
  go_enter Tryz.func8,Tryz.ntmps8
  go_wp2_with ((with_reducible refine zst (L:=[44,41,31,100]) ?_ ?_); exact rfl)
  unfold Hid
  refine wpList_boxB rfl 41 (.tmp 0) rfl #[I v.gen,.slice xa v.box.length xc,.bool v.busy,I v.now.client,I v.now.token,I v.now.call.kind,I v.now.call.name,I v.now.call.other,I v.now.call.n,.slice la v.plan.length lc,I v.says.err,I v.says.n] rfl (fun b0 w1_ M1=>?_)
  have B_b0:=zmb M1
  replace EW:=zet EW M1
  have O_b0 : Hid (w.heap.size ≤ b0):=by unfold Hid; have q:=M1.out.at_; omega
  go_wp2_with ((with_reducible refine zst (L:=[44,41,31,100]) ?_ ?_); exact rfl)
  unfold Hid
  refine wpList_allocB rfl 41 #[I 0,.slice none 0 0,.bool false,I 0,I 0,I 0,I 0,I 0,I 0,.slice none 0 0,I 0,I 0] (by kernel_rfl) (fun b1 w2_ M2=>?_)
  have D_b0_b1:=zld B_b0 M2
  replace B_b0:=zmo M2 B_b0
  have B_b1:=zmb M2
  replace EW:=zet EW M2
  have O_b1 : Hid (w.heap.size ≤ b1):=by unfold Hid; have q:=D_b0_b1.out; have q2:=O_b0.out; omega
  go_wp2_with ((with_reducible refine zst (L:=[44,41,31,100]) ?_ ?_); exact rfl)
  unfold Hid
  refine wpList_loadW rfl 41 (.tmp 2) rfl b0 rfl B_b0 Tryz.underlying41 (by kernel_rfl) (fun v7 H_v7=>?_)
  go_wp2_with fail
  rw [H_v7.out]
  refine (OwnV_any v _ _ w2_ (HB.out.ext monoBs EW.out) (HP.out.ext EW.out) HS.out).to fun r w2 e2 hr=>?_
  obtain ⟨box',plan',rfl,ho,yg,rfl⟩:=hr
  obtain ⟨za,zc,rfl⟩:=own_slice ho.plan
  have OS:=Lib.hid (ho.low (b2:=w.heap.size) EW.out.size)
  clear ho H_v7
  replace B_b0:=zbx B_b0 e2
  replace B_b1:=zbx B_b1 e2
  replace EW:=Lib.hid (EW.out.trans e2)
  clear e2
  go_wp2_with ((with_reducible refine zst (L:=[44,41,31,100]) ?_ ?_); exact rfl)
  unfold Hid
  refine wpList_allocB rfl 41 #[I 0,.slice none 0 0,.bool false,I 0,I 0,I 0,I 0,I 0,I 0,.slice none 0 0,I 0,I 0] (by kernel_rfl) (fun b2 w3_ M3=>?_)
  have D_b0_b2:=zld B_b0 M3
  have D_b1_b2:=zld B_b1 M3
  replace B_b0:=zmo M3 B_b0
  replace B_b1:=zmo M3 B_b1
  have B_b2:=zmb M3
  replace OS:=Lib.hid (OS.out.ext M3.out.ext)
  replace EW:=zet EW M3
  have O_b2 : Hid (w.heap.size ≤ b2):=by unfold Hid; have q:=D_b0_b2.out; have q2:=O_b0.out; omega
  go_wp2_with ((with_reducible refine zst (L:=[44,41,31,100]) ?_ ?_); exact rfl)
  unfold Hid
  refine wpList_storeW rfl 41 (.tmp 6) (.tmp 8) rfl b2 rfl [I v.gen,.slice (some ⟨yg,0,none⟩) v.box.length v.box.length,.bool v.busy,I v.now.client,I v.now.token,I v.now.call.kind,I v.now.call.name,I v.now.call.other,I v.now.call.n,.slice za v.plan.length zc,I v.says.err,I v.says.n] (rfl) B_b2 rfl (by kernel_rfl) rfl (fun w4_ M4=>?_)
  replace OS:=Lib.hid ((⟨OS.out.box.kept M4.out.grown B_b2.out (by decide) (by decide),OS.out.plan.kept M4.out.grown (.inr (own_ne OS.out.plan B_b2.out (by decide)))⟩ : OwnSv _ _ _ _ _))
  replace B_b0:=zwl M4 B_b0 D_b0_b2
  replace B_b1:=zwl M4 B_b1 D_b1_b2
  replace B_b2:=zwb M4
  replace EW:=zwe M4 EW O_b2
  have c1:=cell_of (i:=1) B_b0.out rfl
  go_wp2_with ((with_reducible refine zst (L:=[44,41,31,100]) ?_ ?_); exact rfl)
  unfold Hid
  clear c1 h3i
  refine wpList_loadW rfl 41 (.tmp 6) rfl b2 rfl B_b2 Tryz.underlying41 (by kernel_rfl) (fun v13 H_v13=>?_)
  go_wp2_with ((with_reducible refine zst (L:=[44,41,31,100]) ?_ ?_); exact rfl)
  unfold Hid
  refine wpList_storeW rfl 41 (.tmp 4) (.tmp 13) rfl b1 rfl _ (zcv H_v13) B_b1 rfl (by kernel_rfl) rfl (fun w5_ M5=>?_)
  replace OS:=Lib.hid ((⟨OS.out.box.kept M5.out.grown B_b1.out (by decide) (by decide),OS.out.plan.kept M5.out.grown (.inr (own_ne OS.out.plan B_b1.out (by decide)))⟩ : OwnSv _ _ _ _ _))
  replace B_b0:=zwl M5 B_b0 D_b0_b1
  replace B_b1:=zwb M5
  replace B_b2:=zwg M5 B_b2 D_b1_b2
  replace EW:=zwe M5 EW O_b1
  go_wp2
  have z0:=run_box (P:=Tryz.prog) 41 B_b1.out Tryz.underlying41 (by kernel_rfl)
  refine bodyPost_ret (by simp [results,Tryz.results8,asAddr,z0]; rfl) rfl ?_
  exact ⟨_,rfl,EW.out,_,_,rfl,OS.out⟩
 rw [if_neg h3]
 have h3i : ¬ ((3 : Int) ≤ (v.box.length : Int)):=by omega
 clear h3
 go_enter Tryz.func8,Tryz.ntmps8
 go_wp2_with ((with_reducible refine zst (L:=[44,41,31,100]) ?_ ?_); exact rfl)
 unfold Hid
 refine wpList_boxB rfl 41 (.tmp 0) rfl #[I v.gen,.slice xa v.box.length xc,.bool v.busy,I v.now.client,I v.now.token,I v.now.call.kind,I v.now.call.name,I v.now.call.other,I v.now.call.n,.slice la v.plan.length lc,I v.says.err,I v.says.n] rfl (fun b0 w1_ M1=>?_)
 have B_b0:=zmb M1
 replace EW:=zet EW M1
 have O_b0 : Hid (w.heap.size ≤ b0):=by unfold Hid; have q:=M1.out.at_; omega
 go_wp2_with ((with_reducible refine zst (L:=[44,41,31,100]) ?_ ?_); exact rfl)
 unfold Hid
 refine wpList_allocB rfl 41 #[I 0,.slice none 0 0,.bool false,I 0,I 0,I 0,I 0,I 0,I 0,.slice none 0 0,I 0,I 0] (by kernel_rfl) (fun b1 w2_ M2=>?_)
 have D_b0_b1:=zld B_b0 M2
 replace B_b0:=zmo M2 B_b0
 have B_b1:=zmb M2
 replace EW:=zet EW M2
 have O_b1 : Hid (w.heap.size ≤ b1):=by unfold Hid; have q:=D_b0_b1.out; have q2:=O_b0.out; omega
 go_wp2_with ((with_reducible refine zst (L:=[44,41,31,100]) ?_ ?_); exact rfl)
 unfold Hid
 refine wpList_loadW rfl 41 (.tmp 2) rfl b0 rfl B_b0 Tryz.underlying41 (by kernel_rfl) (fun v7 H_v7=>?_)
 go_wp2_with fail
 rw [H_v7.out]
 refine (OwnV_any v _ _ w2_ (HB.out.ext monoBs EW.out) (HP.out.ext EW.out) HS.out).to fun r w2 e2 hr=>?_
 obtain ⟨box',plan',rfl,ho,yg,rfl⟩:=hr
 obtain ⟨za,zc,rfl⟩:=own_slice ho.plan
 have OS:=Lib.hid (ho.low (b2:=w.heap.size) EW.out.size)
 clear ho H_v7
 replace B_b0:=zbx B_b0 e2
 replace B_b1:=zbx B_b1 e2
 replace EW:=Lib.hid (EW.out.trans e2)
 clear e2
 go_wp2_with ((with_reducible refine zst (L:=[44,41,31,100]) ?_ ?_); exact rfl)
 unfold Hid
 refine wpList_allocB rfl 41 #[I 0,.slice none 0 0,.bool false,I 0,I 0,I 0,I 0,I 0,I 0,.slice none 0 0,I 0,I 0] (by kernel_rfl) (fun b2 w3_ M3=>?_)
 have D_b0_b2:=zld B_b0 M3
 have D_b1_b2:=zld B_b1 M3
 replace B_b0:=zmo M3 B_b0
 replace B_b1:=zmo M3 B_b1
 have B_b2:=zmb M3
 replace OS:=Lib.hid (OS.out.ext M3.out.ext)
 replace EW:=zet EW M3
 have O_b2 : Hid (w.heap.size ≤ b2):=by unfold Hid; have q:=D_b0_b2.out; have q2:=O_b0.out; omega
 go_wp2_with ((with_reducible refine zst (L:=[44,41,31,100]) ?_ ?_); exact rfl)
 unfold Hid
 refine wpList_storeW rfl 41 (.tmp 6) (.tmp 8) rfl b2 rfl [I v.gen,.slice (some ⟨yg,0,none⟩) v.box.length v.box.length,.bool v.busy,I v.now.client,I v.now.token,I v.now.call.kind,I v.now.call.name,I v.now.call.other,I v.now.call.n,.slice za v.plan.length zc,I v.says.err,I v.says.n] (rfl) B_b2 rfl (by kernel_rfl) rfl (fun w4_ M4=>?_)
 replace OS:=Lib.hid ((⟨OS.out.box.kept M4.out.grown B_b2.out (by decide) (by decide),OS.out.plan.kept M4.out.grown (.inr (own_ne OS.out.plan B_b2.out (by decide)))⟩ : OwnSv _ _ _ _ _))
 replace B_b0:=zwl M4 B_b0 D_b0_b2
 replace B_b1:=zwl M4 B_b1 D_b1_b2
 replace B_b2:=zwb M4
 replace EW:=zwe M4 EW O_b2
 have c1:=cell_of (i:=1) B_b0.out rfl
 go_wp2_with fail
 clear c1 h3i
 have c1:=cell_of (i:=1) B_b2.out rfl
 have hcw:=c1
 refine wp_region_mono_tail 7 [none,none,none,some (.inr (fun r wx=>wx.ownsRow w.heap.size 5 1 r b.length (b.map U))),some (.inr (fun r wx=>∃ ev,Row wx 1 r 1 [ev] ∧ ev.oneCell' = true ∧ wx.ownsRow w.heap.size 5 1 ev b.length (b.map U))),some (.inr (fun r wx=>OwnBox w.heap.size wx r (v.box ++ [b]))),none] (by kernel_rfl) (by kernel_rfl) ?_ ?_
 ·exact ⟨trivial,trivial,trivial,monoOwns _ _ _ _ _,fun _ _ _ he ⟨ev,h1,h2,h3⟩=>⟨ev,h1.ext he,h2,owns_ext h3 he⟩,monoOwnBox _ _,trivial,trivial⟩
 iterate 1 (refine wpM_p (fun K hK=>?_); go_simp; first | refine hK _ ?_ | refine ⟨(fun h=>by cases h),hK _ ?_⟩; clear hK K)
 refine wpM_q (.slice (some ⟨yg,0,none⟩) v.box.length v.box.length) rfl (fun w' hw'=>by have q0:=hw'.cell hcw; go_simp) ?_
 refine wpM_norm (fun K hK=>?_); go_simp; refine hK _ ?_; clear hK K
 iterate 1 (refine wpM_p (fun K hK=>?_); go_simp; first | refine hK _ ?_ | refine ⟨(fun h=>by cases h),hK _ ?_⟩; clear hK K)
 refine wpM_l _ rfl (fun w' hw' hk=>?_) (fun v17=>?_)
 ·have hg:=(own_bytesV _ b w' (HV.out.ext (EW.out.trans hw')) HBL.out).mono (fun r wx _ h=>owns_base (b2:=w.heap.size) h (Nat.le_trans EW.out.size hw'.size))
  clear hk
  unfold makes
  go_simp
  exact ⟨Ext.refl _,hg⟩
 refine wpM_norm (fun K hK=>?_); go_simp; refine hK _ ?_; clear hK K
 refine wpM_l _ rfl (fun w' hw' hk=>?_) (fun v18=>?_)
 ·have h17 : w'.ownsRow w.heap.size 5 1 v17 b.length (b.map U):=hk 17 (by decide)
  obtain ⟨ea,ec,rfl⟩:=own_slice h17
  clear hk
  unfold makes
  go_simp
  exact ⟨(Ext.refl _).alloc _,_,Row.of_owns (World.ownsRow_lit (base:=0) (size:=1) w' _ 1 (Nat.zero_le _) (by decide) rfl),rfl,h17.alloc _⟩
 refine wpM_norm (fun K hK=>?_); go_simp; refine hK _ ?_; clear hK K
 refine wpM_l _ rfl (fun w' hw' hk=>?_) (fun v19=>?_)
 ·obtain ⟨ev,h1,h2,h3⟩ : ∃ ev,Row w' 1 v18 1 [ev] ∧ ev.oneCell' = true ∧ w'.ownsRow w.heap.size 5 1 ev b.length (b.map U):=hk 18 (by decide)
  obtain ⟨evs,hl,hr1,hr2⟩:=(OS.out.box.ext hw').list
  obtain ⟨vv,ww,hrun,hoo,hee⟩:=run_append_full (P:=Tryz.prog) w' w.heap.size 32 32 24 i0 _ 1 24 Tryz.underlying32 HI.out hz0 hz1 hz2 rfl (by decide) (.slice (some ⟨yg,0,none⟩) v.box.length v.box.length) v.box.length evs ⟨yg,rfl,hr1⟩ v18 1 [ev] h1 (fun u hu=>by rw [List.mem_singleton.1 hu]; exact h2) (by have:=HS.out.1; omega) (by decide) (Nat.le_trans EW.out.size hw'.size)
  exact makes_append rfl rfl rfl hrun hee (OwnBox.snoc (fun i x hx=>by obtain ⟨e2,q1,q2⟩:=hr2 i x hx; exact ⟨e2,q1,owns_ext q2 hee⟩) hl hoo (owns_ext h3 hee))
 refine wpM_norm (fun K hK=>?_); go_simp; refine hK _ ?_; clear hK K
 iterate 1 (refine wpM_p (fun K hK=>?_); go_simp; first | refine hK _ ?_ | refine ⟨(fun h=>by cases h),hK _ ?_⟩; clear hK K)
 refine wpM_nil ?_
 intro w5 e5 hF
 have ob : OwnBox w.heap.size w5 v19 (v.box ++ [b]):=hF 19
 obtain ⟨na,nc,en⟩:=ob.slice
 rw [show (v.box ++ [b]).length = v.box.length + 1 by simp] at en
 subst en
 have OB:=Lib.hid ob
 clear hF ob hcw c1
 replace B_b0:=zbx B_b0 e5
 replace B_b1:=zbx B_b1 e5
 replace B_b2:=zbx B_b2 e5
 replace OS:=Lib.hid (OS.out.ext e5)
 replace EW:=Lib.hid (EW.out.trans e5)
 clear e5
 refine stop_store ?_
 unfold Hid
 refine wpList_storeP rfl 32 (.tmp 20) (.tmp 19) rfl b2 1 rfl [.slice na (v.box.length + 1) nc] (rfl) B_b2 rfl (by kernel_rfl) rfl [I v.gen,.slice na (v.box.length + 1) nc,.bool v.busy,I v.now.client,I v.now.token,I v.now.call.kind,I v.now.call.name,I v.now.call.other,I v.now.call.n,.slice za v.plan.length zc,I v.says.err,I v.says.n] rfl (fun w5_ M5=>?_)
 replace OS:=Lib.hid ((⟨OS.out.box.kept M5.out.grown B_b2.out (by decide) (by decide),OS.out.plan.kept M5.out.grown (.inr (own_ne OS.out.plan B_b2.out (by decide)))⟩ : OwnSv _ _ _ _ _))
 replace OB:=Lib.hid (OB.out.kept M5.out.grown B_b2.out (by decide) (by decide))
 replace B_b0:=zwl M5 B_b0 D_b0_b2
 replace B_b1:=zwl M5 B_b1 D_b1_b2
 replace B_b2:=zwb M5
 replace EW:=zwe M5 EW O_b2
 go_wp2_with ((with_reducible refine zst (L:=[44,41,31,100]) ?_ ?_); exact rfl)
 unfold Hid
 refine wpList_loadW rfl 41 (.tmp 6) rfl b2 rfl B_b2 Tryz.underlying41 (by kernel_rfl) (fun v21 H_v21=>?_)
 go_wp2_with ((with_reducible refine zst (L:=[44,41,31,100]) ?_ ?_); exact rfl)
 unfold Hid
 refine wpList_storeW rfl 41 (.tmp 4) (.tmp 21) rfl b1 rfl _ (zcv H_v21) B_b1 rfl (by kernel_rfl) rfl (fun w6_ M6=>?_)
 replace OS:=Lib.hid ((⟨OS.out.box.kept M6.out.grown B_b1.out (by decide) (by decide),OS.out.plan.kept M6.out.grown (.inr (own_ne OS.out.plan B_b1.out (by decide)))⟩ : OwnSv _ _ _ _ _))
 replace OB:=Lib.hid (OB.out.kept M6.out.grown B_b1.out (by decide) (by decide))
 replace B_b0:=zwl M6 B_b0 D_b0_b1
 replace B_b1:=zwb M6
 replace B_b2:=zwg M6 B_b2 D_b1_b2
 replace EW:=zwe M6 EW O_b1
 go_wp2
 have z0:=run_box (P:=Tryz.prog) 41 B_b1.out Tryz.underlying41 (by kernel_rfl)
 refine bodyPost_ret (by simp [results,Tryz.results8,asAddr,z0]; rfl) rfl ?_
 exact ⟨_,rfl,EW.out,_,_,rfl,(⟨OB.out,OS.out.plan⟩ : OwnSv _ _ _ _ { v with box:=v.box ++ [b] })⟩

theorem Come_keeps (v : Sv) (box plan bv : Value) (b : List UInt8) (w : World) (hb : RowOf 1 elBs w box v.box) (hp : Writes w plan v.plan) (hv : Bytes w bv b) (hs : SmallV v) (hbl : b.length ≤ 140737488355328) :
  Keeps Tryz.prog 8 #[.agg (cells12 v box plan).toArray,bv] w (fun _=>False) (fun r w'=>TupE elSv (comeSv v b).1 (comeSv v b).2 r w') :=
 (Come_own v box plan bv b w hb hp hv hs hbl).to fun r w' he h=>by
  obtain ⟨x,y,rfl,ho⟩:=h
  obtain ⟨r1,r2⟩:=ho.rd (B:=fun k=>False ∨ w.heap.size ≤ k) fun g hg _=>.inr hg
  exact ⟨_,rfl,he,tupE_rd (sv_rd r1 r2)⟩

end Go.Proofs.YtdmipnnfooleladGreat

namespace Go.Proofs.YtdmipnnfooleladGreat
open Go.RowKit Go.Mk
set_option maxRecDepth 100000

def atAn : List An → Int → Nat
 | [],_=>0
 | x :: l,n=>if x.client = n then 0 else atAn l n + 1
def placeOf (l : List An) (n : Int) : Int:=if atAn l n < l.length then (atAn l n : Int) else -1

theorem at_hit : ∀ {l : List An} {k : Nat} {x : An} {n : Int},(∀ (j : Nat) (y : An),j < k → l[j]? = some y → y.client ≠ n) → l[k]? = some x → x.client = n → atAn l n = k
 | [],k,x,n,_,hx,_=>by simp at hx
 | y :: l,0,x,n,_,hx,hc=>by
  simp at hx
  subst hx
  exact if_pos hc
 | y :: l,k + 1,x,n,h,hx,hc=>by
  have h0 : ¬ y.client = n:=h 0 y (by omega) rfl
  have:=at_hit (l:=l) (k:=k) (x:=x) (n:=n) (fun j z hj hz=>h (j + 1) z (by omega) (by simpa using hz)) (by simpa using hx) hc
  show (if y.client = n then 0 else atAn l n + 1) = _
  rw [if_neg h0,this]
theorem at_none : ∀ {l : List An} {n : Int},(∀ x ∈ l,x.client ≠ n) → atAn l n = l.length
 | [],_,_=>rfl
 | y :: l,n,h=>by
  show (if y.client = n then 0 else atAn l n + 1) = _
  rw [if_neg (h y (by simp)),at_none (fun x hx=>h x (by simp [hx]))]
  rfl
theorem place_hit {l : List An} {k : Nat} {x : An} {n : Int} (h : ∀ (j : Nat) (y : An),j < k → l[j]? = some y → y.client ≠ n) (hx : l[k]? = some x) (hc : x.client = n) : placeOf l n = (k : Int):=by
 unfold placeOf
 rw [at_hit h hx hc,if_pos (List.getElem?_eq_some_iff.1 hx).1]
theorem place_none {l : List An} {n : Int} (h : ∀ (j : Nat) (y : An),j < l.length → l[j]? = some y → y.client ≠ n) : placeOf l n = -1:=by
 unfold placeOf
 rw [at_none (fun x hx=>by obtain ⟨j,hj⟩:=List.mem_iff_getElem?.1 hx; exact h j x (List.getElem?_eq_some_iff.1 hj).1 hj),if_neg (Nat.lt_irrefl _)]

theorem place_cases : ∀ (l : List An) (n : Int),(placeOf l n = -1 ∧ lastAn l n = (zeroAn,false) ∧ ∀ a : An,a.client = n → putAn l a = l ++ [a]) ∨ ∃ (k : Nat) (x : An),placeOf l n = (k : Int) ∧ l[k]? = some x ∧ lastAn l n = (x,true) ∧ ∀ a : An,a.client = n → putAn l a = l.set k a
 | [],n=>.inl ⟨rfl,rfl,fun _ _=>rfl⟩
 | y :: l,n=>by
  by_cases hy : y.client = n
  ·right
   refine ⟨0,y,place_hit (fun j z hj=>by omega) rfl hy,rfl,if_pos hy,fun a ha=>?_⟩
   show (if y.client = a.client then a :: l else y :: putAn l a) = _
   rw [if_pos (hy.trans ha.symm)]
   rfl
  ·have hl : lastAn (y :: l) n = lastAn l n:=if_neg hy
   have hp : ∀ a : An,a.client = n → putAn (y :: l) a = y :: putAn l a:=fun a ha=>if_neg (fun e=>hy (e.trans ha))
   have ha : atAn (y :: l) n = atAn l n + 1:=if_neg hy
   rcases place_cases l n with ⟨h1,h2,h3⟩ | ⟨k,x,h1,h2,h3,h4⟩
   ·left
    refine ⟨?_,by rw [hl,h2],fun a e=>by rw [hp a e,h3 a e]; rfl⟩
    unfold placeOf at h1 ⊢
    rw [ha]
    by_cases hlt : atAn l n < l.length
    ·rw [if_pos hlt] at h1; omega
    ·rw [if_neg (by simp; omega)]
   ·right
    refine ⟨k + 1,x,?_,by simpa using h2,by rw [hl,h3],fun a e=>by rw [hp a e,h4 a e]; rfl⟩
    unfold placeOf at h1 ⊢
    rw [ha]
    by_cases hlt : atAn l n < l.length
    ·rw [if_pos hlt] at h1; rw [if_pos (by simp; omega)]; omega
    ·rw [if_neg hlt] at h1; omega

set_option maxHeartbeats 400000 in
theorem placeIs_any (xc xt xe xn n : Int) (b : Nat) (w : World) (hb : w.cell? ⟨b,0,none⟩ = some (I n)) :
  Calls Tryz.prog 81 #[.agg #[I xc,I xt,I xe,I xn],.pointer (some ⟨b,0,none⟩)] w fun e w'=>e = .returned (.bool (xc == n)) ∧ Ext w w':=by
 have e0 : Ext w (w.alloc (.cells #[I xc,I xt,I xe,I xn] 59)):=(Ext.refl w).alloc _
 have hb2:=e0.cell hb
 clear hb
 go_enter Tryz.func81,Tryz.ntmps81
 go_wp2
 go_ret
 exact ⟨rfl,e0⟩

theorem enters_place : ∀ (args : Array Value) (w : World),(callFunc 81 args).run Tryz.prog w = .ok (.enter 81 args) w:=fun _ _=>by kernel_rfl

set_option maxHeartbeats 1000000 in
theorem indexFunc_any (a : Value) (l : List An) (n : Int) (b : Nat) (w : World) (ha : RowOf 4 elAn w a l) (hb : w.cell? ⟨b,0,none⟩ = some (I n)) :
  Calls Tryz.prog 80 #[a,.func (.func 81) #[] #[.pointer (some ⟨b,0,none⟩)]] w fun e w'=>e = .returned (I (placeOf l n)) ∧ Ext w w':=by
 obtain ⟨aa,ac,rfl,g1,g2,g3⟩:=ans_form ha
 unfold maxLen at g2
 clear ha
 obtain ⟨R,hR⟩ : ∃ R,placeOf l n = R:=⟨_,rfl⟩
 rw [hR]
 have HR:=Lib.hid hR
 clear hR
 have HG:=Lib.hid g3
 clear g3
 have hE:=enters_place
 go_enter Tryz.func80,Tryz.ntmps80
 go_wp2
 go_loopw [8] (fun i wr=>∃ k : Nat,k ≤ l.length ∧ i = I k ∧ (∀ (j : Nat) (y : An),j < k → l[j]? = some y → y.client ≠ n) ∧ Ext w wr) (fun i _=>l.length - (intOf i).toNat)
 case atStart=>exact ⟨0,by omega,rfl,fun j y hj=>by omega,Ext.refl _⟩
 case round =>
  obtain ⟨k,hk,rfl,hne,he⟩:=hrel
  have HNE:=Lib.hid hne
  clear hne
  by_cases hlt : k < l.length
  ·obtain ⟨x,hx⟩ : ∃ x,l[k]? = some x:=⟨l[k],List.getElem?_eq_getElem hlt⟩
   obtain ⟨b2,off,rfl,c0,c1,c2,c3⟩:=HG.out k x hx
   have HX:=Lib.hid hx
   clear hx
   replace c0:=he.cell c0
   replace c1:=he.cell c1
   replace c2:=he.cell c2
   replace c3:=he.cell c3
   obtain ⟨xc,xt,⟨xe,xn⟩⟩:=x
   go_wp2_with fail
   clear c0 c1 c2 c3
   refine Calls.exts (placeIs_any xc xt xe xn n b wr (he.cell hb)) (fun w2 e2=>?_)
   by_cases hc : xc = n
   ·have hbt : (xc == n) = true:=by simpa using hc
    have HC:=Lib.hid hc
    clear hc
    go_wp2
    go_ret
    refine ⟨?_,he.trans e2⟩
    rw [← HR.out,place_hit HNE.out HX.out HC.out]
    rfl
   ·have hbt : (xc == n) = false:=by simpa using hc
    have HC:=Lib.hid hc
    clear hc
    go_wp2
    go_roundw
    case rel =>
     refine ⟨k + 1,by omega,by go_num,fun j y hj hy=>?_,he.trans e2⟩
     by_cases hjk : j = k
     ·subst hjk
      have hy2 : l[j]? = some y:=hy
      rw [HX.out] at hy2
      cases hy2
      exact HC.out
     ·exact HNE.out j y (by omega) hy
    case measure=>simp [intOf]; omega
  ·have hkl : k = l.length:=by omega
   subst hkl
   go_wp2
   go_ret
   refine ⟨?_,he⟩
   rw [← HR.out,place_none HNE.out]
   rfl

set_option maxHeartbeats 400000 in
theorem place_any (a : Value) (l : List An) (n : Int) (w : World) (ha : RowOf 4 elAn w a l) :
  Calls Tryz.prog 69 #[a,I n] w fun e w'=>e = .returned (I (placeOf l n)) ∧ Ext w w':=by
 have e0 : Ext w (w.alloc (.cells #[I n] 3)):=(Ext.refl w).alloc _
 have hmf:=func_mk
 go_enter Tryz.func69,Tryz.ntmps69
 go_wp2_with fail
 refine Calls.exts (indexFunc_any a l n w.heap.size _ (ha.ext monoAn e0) (by simp)) (fun w2 e2=>?_)
 go_wp2
 go_ret
 exact ⟨rfl,e0.trans e2⟩

set_option maxHeartbeats 1000000 in
theorem Last_any (c u a p : Value) (s : St) (n : Int) (w : World) (h : elSt w [c,u,a,p] s) :
  Calls Tryz.prog 57 #[.agg #[c,u,a,p],I n] w fun e w'=>e = .returned (.tuple #[AN (lastAn s.answers n).1,.bool (lastAn s.answers n).2]) ∧ Ext w w':=by
 obtain ⟨h1,h2,h3,h4⟩:=st_iff.1 h
 clear h h1 h2 h4
 obtain ⟨aa,ac,rfl,g1,g2,g3⟩:=ans_form h3
 unfold maxLen at g2
 generalize hl : s.answers = l at *
 clear hl
 have e0 : Ext w ((w.alloc (.cells #[c,u,.slice aa l.length ac,p] 31)).alloc (.cells #[I 0,I 0,I 0,I 0] 59)):=((Ext.refl w).alloc _).alloc _
 have HB:=Lib.hid (fun wx (h : Ext ((w.alloc (.cells #[c,u,.slice aa l.length ac,p] 31)).alloc (.cells #[I 0,I 0,I 0,I 0] 59)) wx)=>And.intro (first_block h) (second_block h))
 rcases place_cases l n with ⟨p1,p2,-⟩ | ⟨k,x,p1,p2,p3,-⟩
 ·rw [p2]
  clear p2 g3
  go_enter Tryz.func57,Tryz.ntmps57
  go_wp2_with fail
  generalize hw0 : (w.alloc (.cells #[c,u,.slice aa l.length ac,p] 31)).alloc (.cells #[I 0,I 0,I 0,I 0] 59) = w0 at *
  clear hw0
  refine Calls.exts (place_any _ l n w0 (h3.ext monoAn e0)) (fun w1 e1=>?_)
  rw [p1]
  obtain ⟨b0,b1⟩:=HB.out w1 e1
  obtain ⟨y0,y1,y2,y3,f0,f1,f2,f3⟩:=box4 b1
  go_wp2
  clear y0 y1 y2 y3 f0 f1 f2 f3
  have b2:=set4 b1 (I 0) (I 0) (I 0) (I 0)
  obtain ⟨q0,q1,q2,q3,-⟩:=box4 b2
  refine bodyPost_ret (by simp [results,Tryz.results57,go_sem,q0,q1,q2,q3]; rfl) rfl ?_
  exact ⟨rfl,ext_set4 (e0.trans e1) (b:=w.heap.size + 1) (by omega) _ _ _ _⟩
 ·rw [p3]
  clear p3
  obtain ⟨b,off,rfl,c0,c1,c2,c3⟩:=g3 k x p2
  have hkl:=(List.getElem?_eq_some_iff.1 p2).1
  clear g3 p2
  obtain ⟨xc,xt,⟨xe,xn⟩⟩:=x
  go_enter Tryz.func57,Tryz.ntmps57
  go_wp2_with fail
  generalize hw0 : (w.alloc (.cells #[c,u,.slice (some ⟨b,off,none⟩) l.length ac,p] 31)).alloc (.cells #[I 0,I 0,I 0,I 0] 59) = w0 at *
  clear hw0
  refine Calls.exts (place_any _ l n w0 (h3.ext monoAn e0)) (fun w1 e1=>?_)
  rw [p1]
  clear p1
  have ew:=e0.trans e1
  replace c0:=ew.cell c0
  replace c1:=ew.cell c1
  replace c2:=ew.cell c2
  replace c3:=ew.cell c3
  obtain ⟨b0,b1⟩:=HB.out w1 e1
  obtain ⟨x0,x1,x2,x3,-⟩:=box4 b0
  obtain ⟨y0,y1,y2,y3,f0,f1,f2,f3⟩:=box4 b1
  go_wp2
  clear y0 y1 y2 y3 f0 f1 f2 f3 x0 x1 x2 x3 c0 c1 c2 c3
  have b2:=set4 b1 (I xc) (I xt) (I xe) (I xn)
  obtain ⟨q0,q1,q2,q3,-⟩:=box4 b2
  refine bodyPost_ret (by simp [results,Tryz.results57,go_sem,q0,q1,q2,q3]; rfl) rfl ?_
  exact ⟨rfl,ext_set4 ew (b:=w.heap.size + 1) (by omega) _ _ _ _⟩

theorem cellsA_set (l : List An) (k : Nat) (x : An) : cellsA (l.set k x) = ((((cellsA l).set (k * 4) (I x.client)).set (k * 4 + 1) (I x.token)).set (k * 4 + 2) (I x.reply.err)).set (k * 4 + 3) (I x.reply.n):=by
 induction l generalizing k with
 | nil=>simp [cellsA]
 | cons q l ih =>
  cases k with
  | zero=>rfl
  | succ k =>
   rw [show (k + 1) * 4 = k * 4 + 4 by omega,show k * 4 + 4 + 1 = k * 4 + 1 + 4 by omega,show k * 4 + 4 + 2 = k * 4 + 2 + 4 by omega,show k * 4 + 4 + 3 = k * 4 + 3 + 4 by omega]
   show I q.client :: I q.token :: I q.reply.err :: I q.reply.n :: cellsA (l.set k x) = _
   rw [ih]
   rfl

set_option maxHeartbeats 1000000 in
theorem put_anyS (v : Value) (l : List An) (xc xt xe xn : Int) (base : Nat) (w : World) (ho : w.ownsRow base 59 4 v l.length (cellsA l)) (hr : (l.length + 1) * 32 ≤ 140737488355328) (hbase : base ≤ w.heap.size) :
  Calls Tryz.prog 56 #[v,.agg #[I xc,I xt,I xe,I xn]] w fun e w'=>∃ r,e = .returned r ∧ w'.ownsRow base 59 4 r (putAn l ⟨xc,xt,⟨xe,xn⟩⟩).length (cellsA (putAn l ⟨xc,xt,⟨xe,xn⟩⟩)) ∧ w.grownBy w' v.ownBlock:=by
 obtain ⟨i0,hi,hz0,hz1,hz2⟩:=info_parts Tryz.infoAnswer
 have HI:=Lib.hid hi
 clear hi
 have e0 : Ext w (w.alloc (.cells #[I xc,I xt,I xe,I xn] 59)):=(Ext.refl w).alloc _
 have HB:=Lib.hid (fun wx (h : Ext (w.alloc (.cells #[I xc,I xt,I xe,I xn] 59)) wx)=>block_ext h)
 have HO:=Lib.hid ho
 have hrd:=(rd_anss ho).out
 have HLT:=Lib.hid (ho.lt)
 rcases place_cases l xc with ⟨p1,-,p2⟩ | ⟨k,x,p1,p2,-,p3⟩
 ·rw [p2 ⟨xc,xt,⟨xe,xn⟩⟩ rfl]
  clear p2
  obtain ⟨va,vc,rfl⟩:=own_slice ho
  generalize hv : Value.slice va l.length vc = v at *
  clear hv ho
  go_enter Tryz.func56,Tryz.ntmps56
  go_wp2_with fail
  refine Calls.exts (place_any v l xc _ (hrd.ext monoAn e0)) (fun w1 e1=>?_)
  rw [p1]
  have ew:=e0.trans e1
  obtain ⟨y0,y1,y2,y3,-⟩:=box4 (HB.out w1 e1)
  go_wp2_with (at_builtin; refine stop_at ?_)
  unfold Hid
  have hlit:=anss_lit0 (w:=w1) 59 ⟨xc,xt,⟨xe,xn⟩⟩
  have hle:=ew.size
  refine wpList_append_row _ rfl (.tmp 12) (.tmp 14) 28 rfl base 59 i0 (.agg #[.int .i64 0,.int .i64 0,.int .i64 0,.int .i64 0]) 4 32 Tryz.underlying28 HI.out hz0 hz1 hz2 rfl (by decide) v l.length (cellsA l) rfl (owns_ext HO.out (ew.alloc _)) _ rfl 1 _ hlit (cellsA_one _) (by omega) (by decide) (by simp; omega) ?_
  intro v' w' ho2 hg
  clear hlit y0 y1 y2 y3
  go_wp2
  go_ret
  rw [← cellsA_append] at ho2
  refine ⟨_,rfl,by simpa using ho2,?_⟩
  exact grown_trans ((ew.alloc _).grownBy _) hg
 ·rw [p3 ⟨xc,xt,⟨xe,xn⟩⟩ rfl]
  have hkl:=(List.getElem?_eq_some_iff.1 p2).1
  clear p3 p2
  rcases ho.2 with ⟨rfl,hn⟩ | ⟨g,cap,cur,rfl,hb,hg,hn,hm,hs,ht⟩
  ·omega
  clear hg ht hs ho
  unfold maxLen at hm
  go_enter Tryz.func56,Tryz.ntmps56
  go_wp2_with fail
  refine Calls.exts (place_any _ l xc _ (hrd.ext monoAn e0)) (fun w1 e1=>?_)
  rw [p1]
  clear p1
  have ew:=e0.trans e1
  have ho1:=owns_ext HO.out ew
  obtain ⟨y0,y1,y2,y3,-⟩:=box4 (HB.out w1 e1)
  have hne : g ≠ w.heap.size:=by have:=(HLT.out g rfl).2; omega
  have hl4:=length_cellsA l
  have c0 : w1.cell? ⟨g,k * 4,none⟩ = some ((cellsA l)[k * 4]'(by omega)):=by rw [ho1.cellAt _ (by omega)]; exact List.getElem?_eq_getElem _
  have c1 : w1.cell? ⟨g,k * 4 + 1,none⟩ = some ((cellsA l)[k * 4 + 1]'(by omega)):=by rw [ho1.cellAt _ (by omega)]; exact List.getElem?_eq_getElem _
  have c2 : w1.cell? ⟨g,k * 4 + 2,none⟩ = some ((cellsA l)[k * 4 + 2]'(by omega)):=by rw [ho1.cellAt _ (by omega)]; exact List.getElem?_eq_getElem _
  have c3 : w1.cell? ⟨g,k * 4 + 3,none⟩ = some ((cellsA l)[k * 4 + 3]'(by omega)):=by rw [ho1.cellAt _ (by omega)]; exact List.getElem?_eq_getElem _
  generalize (cellsA l)[k * 4]'(by omega) = z0 at c0
  generalize (cellsA l)[k * 4 + 1]'(by omega) = z1 at c1
  generalize (cellsA l)[k * 4 + 2]'(by omega) = z2 at c2
  generalize (cellsA l)[k * 4 + 3]'(by omega) = z3 at c3
  have fz:=ho1.frozenAt
  have HO1:=Lib.hid ho1
  clear ho1 hl4
  go_wp2
  clear c0 c1 c2 c3 fz y0 y1 y2 y3
  go_ret
  have s0:=HO1.out.stored (k * 4) (I xc)
  have s1:=s0.1.stored (k * 4 + 1) (I xt)
  have s2:=s1.1.stored (k * 4 + 2) (I xe)
  have s3:=s2.1.stored (k * 4 + 3) (I xn)
  refine ⟨_,rfl,?_,?_⟩
  ·rw [cellsA_set,List.length_set]
   exact s3.1
  ·exact grown_trans (grown_trans (grown_trans (grown_trans (ew.grownBy _) s0.2) s1.2) s2.2) s3.2

end Go.Proofs.YtdmipnnfooleladGreat


