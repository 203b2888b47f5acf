/- Texts of the proof, merged: N7 N9 N15 S5 N18 C2. -/
import Derived.Test.YtdmipnnfoolelaeKJ
import Derived.Test.YtdmipnnfoolelaeKC
import Derived.Test.YtdmipnnfoolelaeKF
import Derived.Test.YtdmipnnfoolelaeKG
import Derived.Test.YtdmipnnfoolelaeKH
import Derived.Test.YtdmipnnfoolelaeKE

namespace Go.Proofs.Ytdmipnnfoolelae
open Go.RowKit Go.Mk

set_option maxRecDepth 100000 in
set_option maxHeartbeats 4000000 in
theorem refServe_take (sc : List Int) (su : List (Int × Int)) (sa : List An) (sp : List Rq) (gen : Int) (nc nt nk na no nn : Int) (se sn : Int) (b : List UInt8) (l : List (List UInt8)) (pl : List (Int × Int)) (c u a p box plan : Value) (w : World) (A : Nat → Prop) (hs : Rd A (fun w=>elSt w [c,u,a,p] ⟨sc,su,sa,sp⟩) w) (hb : Rd A (fun w=>RowOf 1 elBs w box (b :: l)) w) (hp : Rd A (fun w=>Writes w plan pl) w) (hwo : Weak sc) :
  Keeps Try.prog 32 #[.agg #[c,u,a,p],.agg #[I gen,box,.bool false,I nc,I nt,I nk,I na,I no,I nn,plan,I se,I sn]] w A (fun r w'=>Tup4 (serveM ⟨sc,su,sa,sp⟩ ⟨gen,(b :: l),false,⟨nc,nt,⟨nk,na,no,nn⟩⟩,pl,⟨se,sn⟩⟩).1 (serveM ⟨sc,su,sa,sp⟩ ⟨gen,(b :: l),false,⟨nc,nt,⟨nk,na,no,nn⟩⟩,pl,⟨se,sn⟩⟩).2.1 (serveM ⟨sc,su,sa,sp⟩ ⟨gen,(b :: l),false,⟨nc,nt,⟨nk,na,no,nn⟩⟩,pl,⟨se,sn⟩⟩).2.2.1 (serveM ⟨sc,su,sa,sp⟩ ⟨gen,(b :: l),false,⟨nc,nt,⟨nk,na,no,nn⟩⟩,pl,⟨se,sn⟩⟩).2.2.2 r w'):=by
 suffices hall : ∀ T : Value → World → Prop,(∀ r A w,Rd A (Tup4 (serveM ⟨sc,su,sa,sp⟩ ⟨gen,(b :: l),false,⟨nc,nt,⟨nk,na,no,nn⟩⟩,pl,⟨se,sn⟩⟩).1 (serveM ⟨sc,su,sa,sp⟩ ⟨gen,(b :: l),false,⟨nc,nt,⟨nk,na,no,nn⟩⟩,pl,⟨se,sn⟩⟩).2.1 (serveM ⟨sc,su,sa,sp⟩ ⟨gen,(b :: l),false,⟨nc,nt,⟨nk,na,no,nn⟩⟩,pl,⟨se,sn⟩⟩).2.2.1 (serveM ⟨sc,su,sa,sp⟩ ⟨gen,(b :: l),false,⟨nc,nt,⟨nk,na,no,nn⟩⟩,pl,⟨se,sn⟩⟩).2.2.2 r) w → Rd A (T r) w) → Keeps Try.prog 32 #[.agg #[c,u,a,p],.agg #[I gen,box,.bool false,I nc,I nt,I nk,I na,I no,I nn,plan,I se,I sn]] w A T from hall _ (fun _ _ _ h=>h)
 intro T hT
 have HT:=Lib.hid hT
 clear hT
 unfold Keeps
 obtain ⟨h1,h2,h3,h4⟩:=st_iff.1 hs.out
 obtain ⟨ca,cc,rfl⟩:=row_slice h1
 obtain ⟨ua,uc,rfl⟩:=row_slice h2
 obtain ⟨aa,ac,rfl⟩:=rowOf_slice h3
 obtain ⟨pa,pc,rfl⟩:=rowOf_slice h4
 simp only [] at *
 have EW:=Lib.hid (Ext.refl w)
 obtain ⟨B,hB⟩:=away A w.heap.size 4
 have HK:=Lib.hid hB
 clear hB
 have R0:=Lib.hid ((hs.and hp).widen HK.out.1)
 obtain ⟨la,lc,rfl⟩:=row_slice hp.out
 obtain ⟨xb,xo,xc,bv,rfl,hx1,hx2,hf,hrest⟩:=box_first (hb.widen HK.out.1)
 have HF:=Lib.hid hf
 have HB:=Lib.hid hrest
 unfold maxLen at hx2
 have HWO:=Lib.hid hwo
 clear h1 h2 h3 h4 hs hb hp hf hrest hwo
 obtain ⟨⟨rc,rt,⟨rk,ra,ro,rn⟩⟩,re,hrr⟩ : ∃ x y,readRq b = (x,y):=⟨_,_,rfl⟩
 have HRR:=Lib.hid hrr
 clear hrr
 obtain ⟨⟨lc2,lt,⟨le,ln⟩⟩,LB,hL⟩ : ∃ x y,lastAn sa rc = (x,y):=⟨_,_,rfl⟩
 have HL:=Lib.hid hL
 clear hL
 go_enter Try.func32,Try.ntmps32
 go_wp2_with ((with_reducible refine zst (L:=[44,41,31,51]) ?_ ?_); exact rfl)
 unfold Hid
 refine wpList_boxB rfl 31 (.tmp 0) rfl #[.slice ca sc.length cc,.slice ua su.length uc,.slice aa sa.length ac,.slice pa sp.length pc] rfl (fun b0 w1_ M1=>?_)
 have B_b0:=zmb M1
 replace R0:=zme M1 R0
 replace HF:=zme M1 HF
 replace HB:=zme M1 HB
 replace EW:=zet EW M1
 go_wp2_with ((with_reducible refine zst (L:=[44,41,31,51]) ?_ ?_); exact rfl)
 unfold Hid
 refine wpList_boxB rfl 41 (.tmp 1) rfl #[I gen,.slice (some ⟨xb,xo,none⟩) (l.length + 1) xc,.bool false,I nc,I nt,I nk,I na,I no,I nn,.slice la pl.length lc,I se,I sn] rfl (fun b1 w2_ M2=>?_)
 have D_b0_b1:=zld B_b0 M2
 replace B_b0:=zmo M2 B_b0
 have B_b1:=zmb M2
 replace R0:=zme M2 R0
 replace HF:=zme M2 HF
 replace HB:=zme M2 HB
 replace EW:=zet EW M2
 go_wp2_with ((with_reducible refine zst (L:=[44,41,31,51]) ?_ ?_); exact rfl)
 unfold Hid
 refine wpList_allocB rfl 31 #[.slice none 0 0,.slice none 0 0,.slice none 0 0,.slice none 0 0] (by kernel_rfl) (fun b2 w3_ M3=>?_)
 have D_b0_b2:=zld B_b0 M3
 have D_b1_b2:=zld B_b1 M3
 replace B_b0:=zmo M3 B_b0
 replace B_b1:=zmo M3 B_b1
 have B_b2:=zmb M3
 replace R0:=zme M3 R0
 replace HF:=zme M3 HF
 replace HB:=zme M3 HB
 replace EW:=zet EW M3
 go_wp2_with ((with_reducible refine zst (L:=[44,41,31,51]) ?_ ?_); exact rfl)
 unfold Hid
 refine wpList_allocB rfl 41 #[I 0,.slice none 0 0,.bool false,I 0,I 0,I 0,I 0,I 0,I 0,.slice none 0 0,I 0,I 0] (by kernel_rfl) (fun b3 w4_ M4=>?_)
 have D_b0_b3:=zld B_b0 M4
 have D_b1_b3:=zld B_b1 M4
 have D_b2_b3:=zld B_b2 M4
 replace B_b0:=zmo M4 B_b0
 replace B_b1:=zmo M4 B_b1
 replace B_b2:=zmo M4 B_b2
 have B_b3:=zmb M4
 replace R0:=zme M4 R0
 replace HF:=zme M4 HF
 replace HB:=zme M4 HB
 replace EW:=zet EW M4
 have A_b0 : Hid (b0 = w.heap.size + 0):=by unfold Hid; have q0:=M1.out.at_; have r0:=M1.out.size; omega
 have N_b0:=znb HK A_b0 (by decide)
 have O_b0:=zob A_b0
 have A_b1 : Hid (b1 = w.heap.size + 1):=by unfold Hid; have q0:=M1.out.at_; have r0:=M1.out.size; have q1:=M2.out.at_; have r1:=M2.out.size; omega
 have N_b1:=znb HK A_b1 (by decide)
 have O_b1:=zob A_b1
 have A_b2 : Hid (b2 = w.heap.size + 2):=by unfold Hid; have q0:=M1.out.at_; have r0:=M1.out.size; have q1:=M2.out.at_; have r1:=M2.out.size; have q2:=M3.out.at_; have r2:=M3.out.size; omega
 have N_b2:=znb HK A_b2 (by decide)
 have O_b2:=zob A_b2
 have A_b3 : Hid (b3 = w.heap.size + 3):=by unfold Hid; have q0:=M1.out.at_; have r0:=M1.out.size; have q1:=M2.out.at_; have r1:=M2.out.size; have q2:=M3.out.at_; have r2:=M3.out.size; have q3:=M4.out.at_; have r3:=M4.out.size; omega
 have N_b3:=znb HK A_b3 (by decide)
 have O_b3:=zob A_b3
 have c1:=cell_of (i:=1) B_b1.out rfl
 have cx:=HF.out.out.1
 have c2:=cell_of (i:=2) B_b1.out rfl
 go_wp2_with fail
 clear c1 cx c2
 have hl:=refReadRequest_any bv b w4_ HF.out.out.2
 rw [HRR.out] at hl
 refine Calls.exts hl (fun wa ea=>?_)
 clear hl HF
 replace B_b0:=zbx B_b0 ea
 replace B_b1:=zbx B_b1 ea
 replace B_b2:=zbx B_b2 ea
 replace B_b3:=zbx B_b3 ea
 replace R0:=zrx R0 ea
 replace HB:=zrx HB ea
 replace EW:=Lib.hid (EW.out.trans ea)
 clear ea
 go_wp2_with ((with_reducible refine zst (L:=[44,41,31,51]) ?_ ?_); exact rfl)
 unfold Hid
 refine wpList_allocB rfl 36 #[I 0,I 0,I 0,I 0,I 0,I 0] (by kernel_rfl) (fun b4 w5_ M5=>?_)
 have D_b0_b4:=zld B_b0 M5
 have D_b1_b4:=zld B_b1 M5
 have D_b2_b4:=zld B_b2 M5
 have D_b3_b4:=zld B_b3 M5
 obtain ⟨B1,HB1⟩ : ∃ X : Nat → Prop,Hid (∀ k,X k ↔ (B k ∧ k ≠ b4)):=⟨_,fun _=>Iff.rfl⟩
 replace R0:=zmd HB1 M5 R0
 replace HB:=zmd HB1 M5 HB
 replace N_b0:=znw HB1 N_b0
 replace N_b1:=znw HB1 N_b1
 replace N_b2:=znw HB1 N_b2
 replace N_b3:=znw HB1 N_b3
 have N_b4 : Hid (¬ B1 b4):=fun h=>((HB1.out _).1 h).2 rfl
 have I_B1 : Hid (∀ k,B1 k → B k):=fun k h=>((HB1.out k).1 h).1
 have O_b4 : Hid (w.heap.size ≤ b4):=by unfold Hid; have q2:=M5.out.at_; have q3:=EW.out.size; omega
 replace B_b0:=zmo M5 B_b0
 replace B_b1:=zmo M5 B_b1
 replace B_b2:=zmo M5 B_b2
 replace B_b3:=zmo M5 B_b3
 have B_b4:=zmb M5
 replace R0:=zme M5 R0
 replace HB:=zme M5 HB
 replace EW:=zet EW M5
 go_wp2_with ((with_reducible refine zst (L:=[44,41,31,51]) ?_ ?_); exact rfl)
 unfold Hid
 refine wpList_storeW rfl 36 (.tmp 9) (.tmp 69) rfl b4 rfl [I rc,I rt,I rk,I ra,I ro,I rn] (rfl) B_b4 rfl (by kernel_rfl) rfl (fun w6_ M6=>?_)
 replace B_b0:=zwl M6 B_b0 D_b0_b4
 replace B_b1:=zwl M6 B_b1 D_b1_b4
 replace B_b2:=zwl M6 B_b2 D_b2_b4
 replace B_b3:=zwl M6 B_b3 D_b3_b4
 replace B_b4:=zwb M6
 replace R0:=zwr M6 R0 N_b4
 replace HB:=zwr M6 HB N_b4
 replace EW:=zwe M6 EW O_b4
 have c1:=cell_of (i:=1) B_b1.out rfl
 go_wp2_with (first | ((with_reducible refine zst (L:=[44,41,31,51]) ?_ ?_); exact rfl) | ((with_reducible refine zsc ?_ ?_); exact rfl))
 unfold Hid
 clear c1
 refine wpList_cut rfl l.length (fun na nc=>Rd B1 (fun w=>RowOf 1 elBs w (.slice na l.length nc) l) w6_) ?_ (fun na' nc' hn=>?_)
 ·by_cases hcap : xc = 1
  ·have hl0 : l = []:=List.eq_nil_of_length_eq_zero (by omega)
   refine ⟨some ⟨xb,xo,none⟩,0,by rw [hl0]; exact Rd.all fun w=>rowOf_empty w xb xo 0 (by decide),?_⟩
   rw [hl0]
   subst hcap
   go_simp
  ·exact ⟨some ⟨xb,xo + 1,none⟩,xc - 1,HB.out,by go_simp; intro h; omega⟩
 replace HB:=Lib.hid hn
 clear hn hx1 hx2
 go_wp2_with ((with_reducible refine zst (L:=[44,41,31,51]) ?_ ?_); exact rfl)
 unfold Hid
 refine wpList_storeP rfl 32 (.tmp 74) (.tmp 73) rfl b1 1 rfl [.slice na' l.length nc'] (rfl) B_b1 rfl (by kernel_rfl) rfl [I gen,.slice na' l.length nc',.bool false,I nc,I nt,I nk,I na,I no,I nn,.slice la pl.length lc,I se,I sn] rfl (fun w7_ M7=>?_)
 replace B_b0:=zwl M7 B_b0 D_b0_b1
 replace B_b1:=zwb M7
 replace B_b2:=zwg M7 B_b2 D_b1_b2
 replace B_b3:=zwg M7 B_b3 D_b1_b3
 replace B_b4:=zwg M7 B_b4 D_b1_b4
 replace R0:=zwr M7 R0 N_b1
 replace HB:=zwr M7 HB N_b1
 replace EW:=zwe M7 EW O_b1
 by_cases hre : re = 0
 case neg =>
  have hbe : (re != 0) = true:=by simpa using hre
  go_wp2_with fail
  refine held_drew (S:=fun w'=>w'.heap[b0]? = some (.cells #[.slice ca sc.length cc,.slice ua su.length uc,.slice aa sa.length ac,.slice pa sp.length pc] 31 (0,0)) ∧ w'.heap[b1]? = some (.cells #[I gen,.slice na' l.length nc',.bool false,I nc,I nt,I nk,I na,I no,I nn,.slice la pl.length lc,I se,I sn] 41 (0,0))) (by kernel_rfl) (fun wd ed _=>?_)
  replace B_b0:=zbx B_b0 ed
  replace B_b1:=zbx B_b1 ed
  replace B_b2:=zbx B_b2 ed
  replace B_b3:=zbx B_b3 ed
  replace B_b4:=zbx B_b4 ed
  replace R0:=zrx R0 ed
  replace HB:=zrx HB ed
  replace EW:=Lib.hid (EW.out.trans ed)
  have HSS : Hid (wd.heap[b0]? = some (.cells #[.slice ca sc.length cc,.slice ua su.length uc,.slice aa sa.length ac,.slice pa sp.length pc] 31 (0,0)) ∧ wd.heap[b1]? = some (.cells #[I gen,.slice na' l.length nc',.bool false,I nc,I nt,I nk,I na,I no,I nn,.slice la pl.length lc,I se,I sn] 41 (0,0))):=⟨B_b0.out,B_b1.out⟩
  refine held_loadW 0 rfl (by kernel_rfl) (by kernel_rfl) (by kernel_rfl) (fun _ _ _ _ h=>h) rfl 31 (.tmp 2) rfl b0 rfl (fun w' hS=>hS.1) Try.underlying31 (by kernel_rfl) HSS ?_
  refine held_norm (fun K hK=>?_); go_simp; refine hK _ ?_; clear hK K
  refine held_loadW 1 rfl (by kernel_rfl) (by kernel_rfl) (by kernel_rfl) (fun _ _ _ _ h=>h) rfl 41 (.tmp 3) rfl b1 rfl (fun w' hS=>hS.2) Try.underlying41 (by kernel_rfl) HSS ?_
  refine held_norm (fun K hK=>?_); go_simp; refine hK _ ?_; clear hK K
  refine held_storeW 2 (by kernel_rfl) rfl rfl 31 (.tmp 4) (.tmp 77) rfl b2 rfl [.slice ca sc.length cc,.slice ua su.length uc,.slice aa sa.length ac,.slice pa sp.length pc] (rfl) B_b2 rfl (by kernel_rfl) rfl (fun w8_ M8=>⟨?_,?_⟩)
  ·exact ⟨M8.out.old B_b0.out (Nat.ne_of_lt D_b0_b2.out),M8.out.old B_b1.out (Nat.ne_of_lt D_b1_b2.out)⟩
  replace B_b0:=zwl M8 B_b0 D_b0_b2
  replace B_b1:=zwl M8 B_b1 D_b1_b2
  replace B_b2:=zwb M8
  replace B_b3:=zwg M8 B_b3 D_b2_b3
  replace B_b4:=zwg M8 B_b4 D_b2_b4
  replace R0:=zwr M8 R0 N_b2
  replace HB:=zwr M8 HB N_b2
  replace EW:=zwe M8 EW O_b2
  clear HSS
  have HSS : Hid (w8_.heap[b0]? = some (.cells #[.slice ca sc.length cc,.slice ua su.length uc,.slice aa sa.length ac,.slice pa sp.length pc] 31 (0,0)) ∧ w8_.heap[b1]? = some (.cells #[I gen,.slice na' l.length nc',.bool false,I nc,I nt,I nk,I na,I no,I nn,.slice la pl.length lc,I se,I sn] 41 (0,0))):=⟨B_b0.out,B_b1.out⟩
  refine held_norm (fun K hK=>?_); go_simp; refine hK _ ?_; clear hK K
  refine held_storeW 3 (by kernel_rfl) rfl rfl 41 (.tmp 5) (.tmp 78) rfl b3 rfl [I gen,.slice na' l.length nc',.bool false,I nc,I nt,I nk,I na,I no,I nn,.slice la pl.length lc,I se,I sn] (rfl) B_b3 rfl (by kernel_rfl) rfl (fun w9_ M9=>⟨?_,?_⟩)
  ·exact ⟨M9.out.old B_b0.out (Nat.ne_of_lt D_b0_b3.out),M9.out.old B_b1.out (Nat.ne_of_lt D_b1_b3.out)⟩
  replace B_b0:=zwl M9 B_b0 D_b0_b3
  replace B_b1:=zwl M9 B_b1 D_b1_b3
  replace B_b2:=zwl M9 B_b2 D_b2_b3
  replace B_b3:=zwb M9
  replace B_b4:=zwg M9 B_b4 D_b3_b4
  replace R0:=zwr M9 R0 N_b3
  replace HB:=zwr M9 HB N_b3
  replace EW:=zwe M9 EW O_b3
  clear HSS
  have HSS : Hid (w9_.heap[b0]? = some (.cells #[.slice ca sc.length cc,.slice ua su.length uc,.slice aa sa.length ac,.slice pa sp.length pc] 31 (0,0)) ∧ w9_.heap[b1]? = some (.cells #[I gen,.slice na' l.length nc',.bool false,I nc,I nt,I nk,I na,I no,I nn,.slice la pl.length lc,I se,I sn] 41 (0,0))):=⟨B_b0.out,B_b1.out⟩
  refine held_norm (fun K hK=>?_); go_simp; refine hK _ ?_; clear hK K
  refine held_value 4 (by kernel_rfl) rfl rfl _ rfl HSS.out ?_
  refine held_norm (fun K hK=>?_); go_simp; refine hK _ ?_; clear hK K
  refine held_value 5 (by kernel_rfl) rfl rfl _ rfl HSS.out ?_
  refine held_norm (fun K hK=>?_); go_simp; refine hK _ ?_; clear hK K
  refine wpAnyH_done (by kernel_rfl) ?_ _
  clear HSS
  go_wp2
  have z0:=run_box (P:=Try.prog) 31 B_b2.out Try.underlying31 (by kernel_rfl)
  have z1:=run_box (P:=Try.prog) 41 B_b3.out Try.underlying41 (by kernel_rfl)
  refine bodyPost_ret (by simp [results,Try.results32,asAddr,z0,z1]; rfl) rfl ?_
  have hX : serveM ⟨sc,su,sa,sp⟩ ⟨gen,(b :: l),false,⟨nc,nt,⟨nk,na,no,nn⟩⟩,pl,⟨se,sn⟩⟩ = (⟨sc,su,sa,sp⟩,⟨gen,l,false,⟨nc,nt,⟨nk,na,no,nn⟩⟩,pl,⟨se,sn⟩⟩,[],0):=by
   show (if (readRq b).2 ≠ 0 then _ else if (lastAn sa (readRq b).1.client).2 = true ∧ (readRq b).1.token ≤ (lastAn sa (readRq b).1.client).1.token then (if (lastAn sa (readRq b).1.client).1.token = (readRq b).1.token then _ else _) else _) = _
   rw [HRR.out]
   simp only []
   rw [HL.out]
   rw [if_pos hre]
  have ht:=HT.out
  rw [hX] at ht
  exact ⟨_,rfl,EW.out,ht _ _ _ (Rd.widen (A:=B1) (tup4_rd R0.out.left (sv_rd (v:=⟨gen,l,false,⟨nc,nt,⟨nk,na,no,nn⟩⟩,pl,⟨se,sn⟩⟩) HB.out R0.out.right) (Rd.all fun w=>bytes_nil w)) (fun k _ h=>HK.out.2.2.2 k (I_B1.out k h)))⟩
 subst hre
 go_wp2_with ((with_reducible refine zst (L:=[44,41,31,51]) ?_ ?_); exact rfl)
 unfold Hid
 refine wpList_loadW rfl 31 (.tmp 2) rfl b0 rfl B_b0 Try.underlying31 (by kernel_rfl) (fun v80 H_v80=>?_)
 have d0:=cell_of (i:=0) B_b4.out rfl
 go_wp2_with fail
 clear d0
 rw [H_v80.out]
 have hl:=refLast_any _ _ _ _ ⟨sc,su,sa,sp⟩ rc w7_ R0.out.left.out
 rw [HL.out] at hl
 refine Calls.exts hl (fun wl el=>?_)
 clear hl H_v80
 replace B_b0:=zbx B_b0 el
 replace B_b1:=zbx B_b1 el
 replace B_b2:=zbx B_b2 el
 replace B_b3:=zbx B_b3 el
 replace B_b4:=zbx B_b4 el
 replace R0:=zrx R0 el
 replace HB:=zrx HB el
 replace EW:=Lib.hid (EW.out.trans el)
 clear el
 go_wp2_with ((with_reducible refine zst (L:=[44,41,31,51]) ?_ ?_); exact rfl)
 unfold Hid
 refine wpList_allocB rfl 60 #[I 0,I 0,I 0,I 0] (by kernel_rfl) (fun b5 w8_ M8=>?_)
 have D_b0_b5:=zld B_b0 M8
 have D_b1_b5:=zld B_b1 M8
 have D_b2_b5:=zld B_b2 M8
 have D_b3_b5:=zld B_b3 M8
 have D_b4_b5:=zld B_b4 M8
 obtain ⟨B11,HB11⟩ : ∃ X : Nat → Prop,Hid (∀ k,X k ↔ (B1 k ∧ k ≠ b5)):=⟨_,fun _=>Iff.rfl⟩
 replace R0:=zmd HB11 M8 R0
 replace HB:=zmd HB11 M8 HB
 replace N_b0:=znw HB11 N_b0
 replace N_b1:=znw HB11 N_b1
 replace N_b2:=znw HB11 N_b2
 replace N_b3:=znw HB11 N_b3
 replace N_b4:=znw HB11 N_b4
 have N_b5 : Hid (¬ B11 b5):=fun h=>((HB11.out _).1 h).2 rfl
 have I_B11 : Hid (∀ k,B11 k → B1 k):=fun k h=>((HB11.out k).1 h).1
 have O_b5 : Hid (w.heap.size ≤ b5):=by unfold Hid; have q2:=M8.out.at_; have q3:=EW.out.size; omega
 replace B_b0:=zmo M8 B_b0
 replace B_b1:=zmo M8 B_b1
 replace B_b2:=zmo M8 B_b2
 replace B_b3:=zmo M8 B_b3
 replace B_b4:=zmo M8 B_b4
 have B_b5:=zmb M8
 replace R0:=zme M8 R0
 replace HB:=zme M8 HB
 replace EW:=zet EW M8
 go_wp2_with ((with_reducible refine zst (L:=[44,41,31,51]) ?_ ?_); exact rfl)
 unfold Hid
 refine wpList_storeW rfl 60 (.tmp 11) (.tmp 84) rfl b5 rfl [I lc2,I lt,I le,I ln] (rfl) B_b5 rfl (by kernel_rfl) rfl (fun w9_ M9=>?_)
 replace B_b0:=zwl M9 B_b0 D_b0_b5
 replace B_b1:=zwl M9 B_b1 D_b1_b5
 replace B_b2:=zwl M9 B_b2 D_b2_b5
 replace B_b3:=zwl M9 B_b3 D_b3_b5
 replace B_b4:=zwl M9 B_b4 D_b4_b5
 replace B_b5:=zwb M9
 replace R0:=zwr M9 R0 N_b5
 replace HB:=zwr M9 HB N_b5
 replace EW:=zwe M9 EW O_b5
 have d1:=cell_of (i:=1) B_b4.out rfl
 have l1:=cell_of (i:=1) B_b5.out rfl
 by_cases hq1 : LB = true ∧ lt = rt
 case pos =>
  obtain ⟨rfl,rfl⟩:=hq1
  go_wp2_with fail
  clear d1 l1
  refine held_drew (S:=fun w'=>w'.heap[b0]? = some (.cells #[.slice ca sc.length cc,.slice ua su.length uc,.slice aa sa.length ac,.slice pa sp.length pc] 31 (0,0)) ∧ w'.heap[b1]? = some (.cells #[I gen,.slice na' l.length nc',.bool false,I nc,I nt,I nk,I na,I no,I nn,.slice la pl.length lc,I se,I sn] 41 (0,0)) ∧ w'.heap[b5]? = some (.cells #[I lc2,I lt,I le,I ln] 60 (0,0))) (by kernel_rfl) (fun wd ed _=>?_)
  replace B_b0:=zbx B_b0 ed
  replace B_b1:=zbx B_b1 ed
  replace B_b2:=zbx B_b2 ed
  replace B_b3:=zbx B_b3 ed
  replace B_b4:=zbx B_b4 ed
  replace B_b5:=zbx B_b5 ed
  replace R0:=zrx R0 ed
  replace HB:=zrx HB ed
  replace EW:=Lib.hid (EW.out.trans ed)
  have HSS : Hid (wd.heap[b0]? = some (.cells #[.slice ca sc.length cc,.slice ua su.length uc,.slice aa sa.length ac,.slice pa sp.length pc] 31 (0,0)) ∧ wd.heap[b1]? = some (.cells #[I gen,.slice na' l.length nc',.bool false,I nc,I nt,I nk,I na,I no,I nn,.slice la pl.length lc,I se,I sn] 41 (0,0)) ∧ wd.heap[b5]? = some (.cells #[I lc2,I lt,I le,I ln] 60 (0,0))):=⟨B_b0.out,B_b1.out,B_b5.out⟩
  refine held_loadW 0 rfl (by kernel_rfl) (by kernel_rfl) (by kernel_rfl) (fun _ _ _ _ h=>h) rfl 31 (.tmp 2) rfl b0 rfl (fun w' hS=>hS.1) Try.underlying31 (by kernel_rfl) HSS ?_
  refine held_norm (fun K hK=>?_); go_simp; refine hK _ ?_; clear hK K
  refine held_loadW 1 rfl (by kernel_rfl) (by kernel_rfl) (by kernel_rfl) (fun _ _ _ _ h=>h) rfl 41 (.tmp 3) rfl b1 rfl (fun w' hS=>hS.2.1) Try.underlying41 (by kernel_rfl) HSS ?_
  refine held_norm (fun K hK=>?_); go_simp; refine hK _ ?_; clear hK K
  refine held_loadW 2 rfl (by kernel_rfl) (by kernel_rfl) (by kernel_rfl) (fun _ _ _ _ h=>h) rfl 60 (.tmp 11) rfl b5 rfl (fun w' hS=>hS.2.2) Try.underlying60 (by kernel_rfl) HSS ?_
  refine held_norm (fun K hK=>?_); go_simp; refine hK _ ?_; clear hK K
  refine held_call 3 (by kernel_rfl) rfl rfl 26 #[.agg #[I lc2,I lt,I le,I ln]] (by go_simp) ?_
  refine (AnswerBytes_own lc2 lt le ln wd).to fun v45 w9 e9 hby=>?_
  replace hby:=hby.rd
  have hsz : w.heap.size + 4 ≤ wd.heap.size:=by have q:=(Array.getElem?_eq_some_iff.1 B_b3.out).1; have q2:=A_b3.out; omega
  have hz4 : b4 < wd.heap.size:=(Array.getElem?_eq_some_iff.1 B_b4.out).1
  have hz5 : b5 < wd.heap.size:=(Array.getElem?_eq_some_iff.1 B_b5.out).1
  have HBY:=Lib.hid (hby.widen (B:=B11) (fun k _ h=>(HB11.out k).2 ⟨(HB1.out k).2 ⟨HK.out.2.1 k (by omega),by omega⟩,by omega⟩))
  clear hby hsz hz4 hz5
  replace B_b0:=zbx B_b0 e9
  replace B_b1:=zbx B_b1 e9
  replace B_b2:=zbx B_b2 e9
  replace B_b3:=zbx B_b3 e9
  replace B_b4:=zbx B_b4 e9
  replace B_b5:=zbx B_b5 e9
  replace R0:=zrx R0 e9
  replace HB:=zrx HB e9
  replace EW:=Lib.hid (EW.out.trans e9)
  clear HSS
  refine ⟨_,rfl,⟨B_b0.out,B_b1.out,B_b5.out⟩,?_⟩
  have HSS : Hid (w9.heap[b0]? = some (.cells #[.slice ca sc.length cc,.slice ua su.length uc,.slice aa sa.length ac,.slice pa sp.length pc] 31 (0,0)) ∧ w9.heap[b1]? = some (.cells #[I gen,.slice na' l.length nc',.bool false,I nc,I nt,I nk,I na,I no,I nn,.slice la pl.length lc,I se,I sn] 41 (0,0)) ∧ w9.heap[b5]? = some (.cells #[I lc2,I lt,I le,I ln] 60 (0,0))):=⟨B_b0.out,B_b1.out,B_b5.out⟩
  refine held_norm (fun K hK=>?_); go_simp; refine hK _ ?_; clear hK K
  refine held_storeW 4 (by kernel_rfl) rfl rfl 31 (.tmp 4) (.tmp 99) rfl b2 rfl [.slice ca sc.length cc,.slice ua su.length uc,.slice aa sa.length ac,.slice pa sp.length pc] (rfl) B_b2 rfl (by kernel_rfl) rfl (fun w10_ M10=>⟨?_,?_⟩)
  ·exact ⟨M10.out.old B_b0.out (Nat.ne_of_lt D_b0_b2.out),M10.out.old B_b1.out (Nat.ne_of_lt D_b1_b2.out),M10.out.old B_b5.out (Nat.ne_of_gt D_b2_b5.out)⟩
  replace B_b0:=zwl M10 B_b0 D_b0_b2
  replace B_b1:=zwl M10 B_b1 D_b1_b2
  replace B_b2:=zwb M10
  replace B_b3:=zwg M10 B_b3 D_b2_b3
  replace B_b4:=zwg M10 B_b4 D_b2_b4
  replace B_b5:=zwg M10 B_b5 D_b2_b5
  replace R0:=zwr M10 R0 N_b2
  replace HB:=zwr M10 HB N_b2
  replace HBY:=zwr M10 HBY N_b2
  replace EW:=zwe M10 EW O_b2
  clear HSS
  have HSS : Hid (w10_.heap[b0]? = some (.cells #[.slice ca sc.length cc,.slice ua su.length uc,.slice aa sa.length ac,.slice pa sp.length pc] 31 (0,0)) ∧ w10_.heap[b1]? = some (.cells #[I gen,.slice na' l.length nc',.bool false,I nc,I nt,I nk,I na,I no,I nn,.slice la pl.length lc,I se,I sn] 41 (0,0)) ∧ w10_.heap[b5]? = some (.cells #[I lc2,I lt,I le,I ln] 60 (0,0))):=⟨B_b0.out,B_b1.out,B_b5.out⟩
  refine held_norm (fun K hK=>?_); go_simp; refine hK _ ?_; clear hK K
  refine held_storeW 5 (by kernel_rfl) rfl rfl 41 (.tmp 5) (.tmp 100) rfl b3 rfl [I gen,.slice na' l.length nc',.bool false,I nc,I nt,I nk,I na,I no,I nn,.slice la pl.length lc,I se,I sn] (rfl) B_b3 rfl (by kernel_rfl) rfl (fun w11_ M11=>⟨?_,?_⟩)
  ·exact ⟨M11.out.old B_b0.out (Nat.ne_of_lt D_b0_b3.out),M11.out.old B_b1.out (Nat.ne_of_lt D_b1_b3.out),M11.out.old B_b5.out (Nat.ne_of_gt D_b3_b5.out)⟩
  replace B_b0:=zwl M11 B_b0 D_b0_b3
  replace B_b1:=zwl M11 B_b1 D_b1_b3
  replace B_b2:=zwl M11 B_b2 D_b2_b3
  replace B_b3:=zwb M11
  replace B_b4:=zwg M11 B_b4 D_b3_b4
  replace B_b5:=zwg M11 B_b5 D_b3_b5
  replace R0:=zwr M11 R0 N_b3
  replace HB:=zwr M11 HB N_b3
  replace HBY:=zwr M11 HBY N_b3
  replace EW:=zwe M11 EW O_b3
  clear HSS
  have HSS : Hid (w11_.heap[b0]? = some (.cells #[.slice ca sc.length cc,.slice ua su.length uc,.slice aa sa.length ac,.slice pa sp.length pc] 31 (0,0)) ∧ w11_.heap[b1]? = some (.cells #[I gen,.slice na' l.length nc',.bool false,I nc,I nt,I nk,I na,I no,I nn,.slice la pl.length lc,I se,I sn] 41 (0,0)) ∧ w11_.heap[b5]? = some (.cells #[I lc2,I lt,I le,I ln] 60 (0,0))):=⟨B_b0.out,B_b1.out,B_b5.out⟩
  refine held_norm (fun K hK=>?_); go_simp; refine hK _ ?_; clear hK K
  refine held_value 6 (by kernel_rfl) rfl rfl _ rfl HSS.out ?_
  refine held_norm (fun K hK=>?_); go_simp; refine hK _ ?_; clear hK K
  refine held_value 7 (by kernel_rfl) rfl rfl _ rfl HSS.out ?_
  refine held_norm (fun K hK=>?_); go_simp; refine hK _ ?_; clear hK K
  refine wpAnyH_done (by kernel_rfl) ?_ _
  clear HSS
  go_wp2
  have z0:=run_box (P:=Try.prog) 31 B_b2.out Try.underlying31 (by kernel_rfl)
  have z1:=run_box (P:=Try.prog) 41 B_b3.out Try.underlying41 (by kernel_rfl)
  refine bodyPost_ret (by simp [results,Try.results32,asAddr,z0,z1]; rfl) rfl ?_
  have hX : serveM ⟨sc,su,sa,sp⟩ ⟨gen,(b :: l),false,⟨nc,nt,⟨nk,na,no,nn⟩⟩,pl,⟨se,sn⟩⟩ = (⟨sc,su,sa,sp⟩,⟨gen,l,false,⟨nc,nt,⟨nk,na,no,nn⟩⟩,pl,⟨se,sn⟩⟩,ansB ⟨lc2,lt,⟨le,ln⟩⟩,0):=by
   show (if (readRq b).2 ≠ 0 then _ else if (lastAn sa (readRq b).1.client).2 = true ∧ (readRq b).1.token ≤ (lastAn sa (readRq b).1.client).1.token then (if (lastAn sa (readRq b).1.client).1.token = (readRq b).1.token then _ else _) else _) = _
   rw [HRR.out]
   simp only []
   rw [HL.out]
   rw [if_neg (by simp),if_pos ⟨rfl,Int.le_refl _⟩,if_pos rfl]
  have ht:=HT.out
  rw [hX] at ht
  exact ⟨_,rfl,EW.out,ht _ _ _ (Rd.widen (A:=B11) (tup4_rd R0.out.left (sv_rd (v:=⟨gen,l,false,⟨nc,nt,⟨nk,na,no,nn⟩⟩,pl,⟨se,sn⟩⟩) HB.out R0.out.right) (HBY.out)) (fun k _ h=>HK.out.2.2.2 k (I_B1.out k (I_B11.out k h))))⟩
 by_cases hq2 : LB = true ∧ rt < lt
 case pos =>
  obtain ⟨rfl,hlt⟩:=hq2
  have hb2 : (lt == rt) = false:=by simp; omega
  have hb1 : rt ≤ lt:=by omega
  go_wp2_with fail
  clear d1 l1
  refine held_drew (S:=fun w'=>w'.heap[b0]? = some (.cells #[.slice ca sc.length cc,.slice ua su.length uc,.slice aa sa.length ac,.slice pa sp.length pc] 31 (0,0)) ∧ w'.heap[b1]? = some (.cells #[I gen,.slice na' l.length nc',.bool false,I nc,I nt,I nk,I na,I no,I nn,.slice la pl.length lc,I se,I sn] 41 (0,0))) (by kernel_rfl) (fun wd ed _=>?_)
  replace B_b0:=zbx B_b0 ed
  replace B_b1:=zbx B_b1 ed
  replace B_b2:=zbx B_b2 ed
  replace B_b3:=zbx B_b3 ed
  replace B_b4:=zbx B_b4 ed
  replace B_b5:=zbx B_b5 ed
  replace R0:=zrx R0 ed
  replace HB:=zrx HB ed
  replace EW:=Lib.hid (EW.out.trans ed)
  have HSS : Hid (wd.heap[b0]? = some (.cells #[.slice ca sc.length cc,.slice ua su.length uc,.slice aa sa.length ac,.slice pa sp.length pc] 31 (0,0)) ∧ wd.heap[b1]? = some (.cells #[I gen,.slice na' l.length nc',.bool false,I nc,I nt,I nk,I na,I no,I nn,.slice la pl.length lc,I se,I sn] 41 (0,0))):=⟨B_b0.out,B_b1.out⟩
  refine held_loadW 0 rfl (by kernel_rfl) (by kernel_rfl) (by kernel_rfl) (fun _ _ _ _ h=>h) rfl 31 (.tmp 2) rfl b0 rfl (fun w' hS=>hS.1) Try.underlying31 (by kernel_rfl) HSS ?_
  refine held_norm (fun K hK=>?_); go_simp; refine hK _ ?_; clear hK K
  refine held_loadW 1 rfl (by kernel_rfl) (by kernel_rfl) (by kernel_rfl) (fun _ _ _ _ h=>h) rfl 41 (.tmp 3) rfl b1 rfl (fun w' hS=>hS.2) Try.underlying41 (by kernel_rfl) HSS ?_
  refine held_norm (fun K hK=>?_); go_simp; refine hK _ ?_; clear hK K
  refine held_storeW 2 (by kernel_rfl) rfl rfl 31 (.tmp 4) (.tmp 103) rfl b2 rfl [.slice ca sc.length cc,.slice ua su.length uc,.slice aa sa.length ac,.slice pa sp.length pc] (rfl) B_b2 rfl (by kernel_rfl) rfl (fun w10_ M10=>⟨?_,?_⟩)
  ·exact ⟨M10.out.old B_b0.out (Nat.ne_of_lt D_b0_b2.out),M10.out.old B_b1.out (Nat.ne_of_lt D_b1_b2.out)⟩
  replace B_b0:=zwl M10 B_b0 D_b0_b2
  replace B_b1:=zwl M10 B_b1 D_b1_b2
  replace B_b2:=zwb M10
  replace B_b3:=zwg M10 B_b3 D_b2_b3
  replace B_b4:=zwg M10 B_b4 D_b2_b4
  replace B_b5:=zwg M10 B_b5 D_b2_b5
  replace R0:=zwr M10 R0 N_b2
  replace HB:=zwr M10 HB N_b2
  replace EW:=zwe M10 EW O_b2
  clear HSS
  have HSS : Hid (w10_.heap[b0]? = some (.cells #[.slice ca sc.length cc,.slice ua su.length uc,.slice aa sa.length ac,.slice pa sp.length pc] 31 (0,0)) ∧ w10_.heap[b1]? = some (.cells #[I gen,.slice na' l.length nc',.bool false,I nc,I nt,I nk,I na,I no,I nn,.slice la pl.length lc,I se,I sn] 41 (0,0))):=⟨B_b0.out,B_b1.out⟩
  refine held_norm (fun K hK=>?_); go_simp; refine hK _ ?_; clear hK K
  refine held_storeW 3 (by kernel_rfl) rfl rfl 41 (.tmp 5) (.tmp 104) rfl b3 rfl [I gen,.slice na' l.length nc',.bool false,I nc,I nt,I nk,I na,I no,I nn,.slice la pl.length lc,I se,I sn] (rfl) B_b3 rfl (by kernel_rfl) rfl (fun w11_ M11=>⟨?_,?_⟩)
  ·exact ⟨M11.out.old B_b0.out (Nat.ne_of_lt D_b0_b3.out),M11.out.old B_b1.out (Nat.ne_of_lt D_b1_b3.out)⟩
  replace B_b0:=zwl M11 B_b0 D_b0_b3
  replace B_b1:=zwl M11 B_b1 D_b1_b3
  replace B_b2:=zwl M11 B_b2 D_b2_b3
  replace B_b3:=zwb M11
  replace B_b4:=zwg M11 B_b4 D_b3_b4
  replace B_b5:=zwg M11 B_b5 D_b3_b5
  replace R0:=zwr M11 R0 N_b3
  replace HB:=zwr M11 HB N_b3
  replace EW:=zwe M11 EW O_b3
  clear HSS
  have HSS : Hid (w11_.heap[b0]? = some (.cells #[.slice ca sc.length cc,.slice ua su.length uc,.slice aa sa.length ac,.slice pa sp.length pc] 31 (0,0)) ∧ w11_.heap[b1]? = some (.cells #[I gen,.slice na' l.length nc',.bool false,I nc,I nt,I nk,I na,I no,I nn,.slice la pl.length lc,I se,I sn] 41 (0,0))):=⟨B_b0.out,B_b1.out⟩
  refine held_norm (fun K hK=>?_); go_simp; refine hK _ ?_; clear hK K
  refine held_value 4 (by kernel_rfl) rfl rfl _ rfl HSS.out ?_
  refine held_norm (fun K hK=>?_); go_simp; refine hK _ ?_; clear hK K
  refine held_value 5 (by kernel_rfl) rfl rfl _ rfl HSS.out ?_
  refine held_norm (fun K hK=>?_); go_simp; refine hK _ ?_; clear hK K
  refine wpAnyH_done (by kernel_rfl) ?_ _
  clear HSS
  go_wp2
  have z0:=run_box (P:=Try.prog) 31 B_b2.out Try.underlying31 (by kernel_rfl)
  have z1:=run_box (P:=Try.prog) 41 B_b3.out Try.underlying41 (by kernel_rfl)
  refine bodyPost_ret (by simp [results,Try.results32,asAddr,z0,z1]; rfl) rfl ?_
  have hX : serveM ⟨sc,su,sa,sp⟩ ⟨gen,(b :: l),false,⟨nc,nt,⟨nk,na,no,nn⟩⟩,pl,⟨se,sn⟩⟩ = (⟨sc,su,sa,sp⟩,⟨gen,l,false,⟨nc,nt,⟨nk,na,no,nn⟩⟩,pl,⟨se,sn⟩⟩,[],0):=by
   show (if (readRq b).2 ≠ 0 then _ else if (lastAn sa (readRq b).1.client).2 = true ∧ (readRq b).1.token ≤ (lastAn sa (readRq b).1.client).1.token then (if (lastAn sa (readRq b).1.client).1.token = (readRq b).1.token then _ else _) else _) = _
   rw [HRR.out]
   simp only []
   rw [HL.out]
   rw [if_neg (by simp),if_pos ⟨rfl,by simp only []; omega⟩,if_neg (by simp only []; omega)]
  have ht:=HT.out
  rw [hX] at ht
  exact ⟨_,rfl,EW.out,ht _ _ _ (Rd.widen (A:=B11) (tup4_rd R0.out.left (sv_rd (v:=⟨gen,l,false,⟨nc,nt,⟨nk,na,no,nn⟩⟩,pl,⟨se,sn⟩⟩) HB.out R0.out.right) (Rd.all fun w=>bytes_nil w)) (fun k _ h=>HK.out.2.2.2 k (I_B1.out k (I_B11.out k h))))⟩
 have hcr : wrongCl ⟨rk,ra,ro,rn⟩ = 0:=by
  have q:=read_right (b:=b) (by rw [HRR.out])
  rw [HRR.out] at q
  exact (wrongRq_parts q).2
 have HCR:=Lib.hid hcr
 clear hcr
 have hsel : LB = false ∨ (LB = true ∧ lt < rt):=by
  cases LB
  ·exact .inl rfl
  ·exact .inr ⟨rfl,by have q1 : ¬ lt = rt:=fun h=>hq1 ⟨rfl,h⟩; have q2 : ¬ rt < lt:=fun h=>hq2 ⟨rfl,h⟩; omega⟩
 clear hq1 hq2
 obtain ⟨de,dn,hD⟩ : ∃ x y,(doCl (namesOf sc) ⟨rk,ra,ro,rn⟩).2 = ⟨x,y⟩:=⟨_,_,rfl⟩
 obtain ⟨PL,hPL⟩ : ∃ x,planCl (namesOf sc) ⟨rk,ra,ro,rn⟩ = x:=⟨_,rfl⟩
 have HD:=Lib.hid hD
 have HPL:=Lib.hid hPL
 clear hD hPL
 rcases hsel with rfl | ⟨rfl,hns⟩
 ·go_wp2_with fail
  clear d1 l1
  refine held_drew (S:=fun w'=>w'.heap[b4]? = some (.cells #[I rc,I rt,I rk,I ra,I ro,I rn] 36 (0,0))) (by kernel_rfl) (fun wd ed _=>?_)
  replace B_b0:=zbx B_b0 ed
  replace B_b1:=zbx B_b1 ed
  replace B_b2:=zbx B_b2 ed
  replace B_b3:=zbx B_b3 ed
  replace B_b4:=zbx B_b4 ed
  replace B_b5:=zbx B_b5 ed
  replace R0:=zrx R0 ed
  replace HB:=zrx HB ed
  replace EW:=Lib.hid (EW.out.trans ed)
  have HSS : Hid (wd.heap[b4]? = some (.cells #[I rc,I rt,I rk,I ra,I ro,I rn] 36 (0,0))):=B_b4.out
  refine held_loadW 0 rfl (by kernel_rfl) (by kernel_rfl) (by kernel_rfl) (fun _ _ _ _ h=>h) rfl 36 (.tmp 9) rfl b4 rfl (fun w' hS=>hS) Try.underlying36 (by kernel_rfl) HSS ?_
  refine held_norm (fun K hK=>?_); go_simp; refine hK _ ?_; clear hK K
  refine held_pure 1 rfl (by kernel_rfl) (by kernel_rfl) (by kernel_rfl) (fun _ _ _ _ h=>h) rfl HSS.out (fun K hK=>?_); go_simp; refine hK _ ?_; clear hK K
  refine held_store 2 (by kernel_rfl) rfl rfl 4 (.tmp 106) (.const (.bool true)) rfl b1 2 rfl [.bool true] (rfl) B_b1.out (Nat.le_of_ble_eq_true rfl) (by kernel_rfl) (ones_of rfl) #[I gen,.slice na' l.length nc',.bool true,I nc,I nt,I nk,I na,I no,I nn,.slice la pl.length lc,I se,I sn] ((splN_eq _ _ _ (Nat.le_of_ble_eq_true rfl)).trans rfl) (fun w10_ M10=>⟨?_,?_⟩)
  ·exact M10.out.old B_b4.out (Nat.ne_of_gt D_b1_b4.out)
  replace B_b0:=zwl M10 B_b0 D_b0_b1
  replace B_b1:=zwb M10
  replace B_b2:=zwg M10 B_b2 D_b1_b2
  replace B_b3:=zwg M10 B_b3 D_b1_b3
  replace B_b4:=zwg M10 B_b4 D_b1_b4
  replace B_b5:=zwg M10 B_b5 D_b1_b5
  replace R0:=zwr M10 R0 N_b1
  replace HB:=zwr M10 HB N_b1
  replace EW:=zwe M10 EW O_b1
  clear HSS
  have HSS : Hid (w10_.heap[b4]? = some (.cells #[I rc,I rt,I rk,I ra,I ro,I rn] 36 (0,0))):=B_b4.out
  refine held_norm (fun K hK=>?_); go_simp; refine hK _ ?_; clear hK K
  refine held_pure 3 rfl (by kernel_rfl) (by kernel_rfl) (by kernel_rfl) (fun _ _ _ _ h=>h) rfl HSS.out (fun K hK=>?_); go_simp; refine hK _ ?_; clear hK K
  refine held_store 4 (by kernel_rfl) rfl rfl 36 (.tmp 107) (.tmp 105) rfl b1 3 rfl [I rc,I rt,I rk,I ra,I ro,I rn] (rfl) B_b1.out (Nat.le_of_ble_eq_true rfl) (by kernel_rfl) (ones_of rfl) #[I gen,.slice na' l.length nc',.bool true,I rc,I rt,I rk,I ra,I ro,I rn,.slice la pl.length lc,I se,I sn] ((splN_eq _ _ _ (Nat.le_of_ble_eq_true rfl)).trans rfl) (fun w11_ M11=>⟨?_,?_⟩)
  ·exact M11.out.old B_b4.out (Nat.ne_of_gt D_b1_b4.out)
  replace B_b0:=zwl M11 B_b0 D_b0_b1
  replace B_b1:=zwb M11
  replace B_b2:=zwg M11 B_b2 D_b1_b2
  replace B_b3:=zwg M11 B_b3 D_b1_b3
  replace B_b4:=zwg M11 B_b4 D_b1_b4
  replace B_b5:=zwg M11 B_b5 D_b1_b5
  replace R0:=zwr M11 R0 N_b1
  replace HB:=zwr M11 HB N_b1
  replace EW:=zwe M11 EW O_b1
  clear HSS
  have HSS : Hid (w11_.heap[b4]? = some (.cells #[I rc,I rt,I rk,I ra,I ro,I rn] 36 (0,0))):=B_b4.out
  refine held_norm (fun K hK=>?_); go_simp; refine hK _ ?_; clear hK K
  refine wpAnyH_done (by kernel_rfl) ?_ _
  clear HSS
  have s0:=cell_of (i:=0) B_b0.out rfl
  have d2:=cell_of (i:=2) B_b4.out rfl
  have d3:=cell_of (i:=3) B_b4.out rfl
  have d4:=cell_of (i:=4) B_b4.out rfl
  have d5:=cell_of (i:=5) B_b4.out rfl
  go_wp2_with fail
  clear s0 d2 d3 d4 d5
  refine (rPlanW_any _ sc rk ra ro rn w11_ (st_iff.1 R0.out.left.out).1 HWO.out HCR.out).mono ?_
  rintro e w9 ⟨⟨uu,rfl,hu⟩,e9⟩
  replace hu : Has w11_.heap.size w9 uu (planCl (namesOf sc) ⟨rk,ra,ro,rn⟩):=hu
  rw [HPL.out] at hu
  obtain ⟨ua',uc',rfl⟩:=row_slice hu.writes
  rw [show (doCl (ofCells sc (sc.getD 0 0).toNat) ⟨rk,ra,ro,rn⟩).2 = ⟨de,dn⟩ from HD.out]
  have hsz : w.heap.size + 4 ≤ w11_.heap.size:=by have q:=(Array.getElem?_eq_some_iff.1 B_b3.out).1; have q2:=A_b3.out; omega
  have hz4 : b4 < w11_.heap.size:=(Array.getElem?_eq_some_iff.1 B_b4.out).1
  have hz5 : b5 < w11_.heap.size:=(Array.getElem?_eq_some_iff.1 B_b5.out).1
  have HPN:=Lib.hid (hu.rd.widen (B:=B11) (fun k _ h=>(HB11.out k).2 ⟨(HB1.out k).2 ⟨HK.out.2.1 k (by omega),by omega⟩,by omega⟩))
  clear hu hsz hz4 hz5
  replace B_b0:=zbx B_b0 e9
  replace B_b1:=zbx B_b1 e9
  replace B_b2:=zbx B_b2 e9
  replace B_b3:=zbx B_b3 e9
  replace B_b4:=zbx B_b4 e9
  replace B_b5:=zbx B_b5 e9
  replace R0:=zrx R0 e9
  replace HB:=zrx HB e9
  replace EW:=Lib.hid (EW.out.trans e9)
  go_wp2_with ((with_reducible refine zst (L:=[44,41,31,51]) ?_ ?_); exact rfl)
  unfold Hid
  refine wpList_storeP rfl 27 (.tmp 116) (.tmp 114) rfl b1 9 rfl [.slice ua' PL.length uc'] (rfl) B_b1 rfl (by kernel_rfl) rfl [I gen,.slice na' l.length nc',.bool true,I rc,I rt,I rk,I ra,I ro,I rn,.slice ua' PL.length uc',I se,I sn] rfl (fun w12_ M12=>?_)
  replace B_b0:=zwl M12 B_b0 D_b0_b1
  replace B_b1:=zwb M12
  replace B_b2:=zwg M12 B_b2 D_b1_b2
  replace B_b3:=zwg M12 B_b3 D_b1_b3
  replace B_b4:=zwg M12 B_b4 D_b1_b4
  replace B_b5:=zwg M12 B_b5 D_b1_b5
  replace R0:=zwr M12 R0 N_b1
  replace HB:=zwr M12 HB N_b1
  replace HPN:=zwr M12 HPN N_b1
  replace EW:=zwe M12 EW O_b1
  go_wp2_with ((with_reducible refine zst (L:=[44,41,31,51]) ?_ ?_); exact rfl)
  unfold Hid
  refine wpList_storeP rfl 39 (.tmp 117) (.tmp 115) rfl b1 10 rfl [I de,I dn] (rfl) B_b1 rfl (by kernel_rfl) rfl [I gen,.slice na' l.length nc',.bool true,I rc,I rt,I rk,I ra,I ro,I rn,.slice ua' PL.length uc',I de,I dn] rfl (fun w13_ M13=>?_)
  replace B_b0:=zwl M13 B_b0 D_b0_b1
  replace B_b1:=zwb M13
  replace B_b2:=zwg M13 B_b2 D_b1_b2
  replace B_b3:=zwg M13 B_b3 D_b1_b3
  replace B_b4:=zwg M13 B_b4 D_b1_b4
  replace B_b5:=zwg M13 B_b5 D_b1_b5
  replace R0:=zwr M13 R0 N_b1
  replace HB:=zwr M13 HB N_b1
  replace HPN:=zwr M13 HPN N_b1
  replace EW:=zwe M13 EW O_b1
  go_wp2_with fail
  refine held_drew (S:=fun w'=>w'.heap[b0]? = some (.cells #[.slice ca sc.length cc,.slice ua su.length uc,.slice aa sa.length ac,.slice pa sp.length pc] 31 (0,0)) ∧ w'.heap[b1]? = some (.cells #[I gen,.slice na' l.length nc',.bool true,I rc,I rt,I rk,I ra,I ro,I rn,.slice ua' PL.length uc',I de,I dn] 41 (0,0))) (by kernel_rfl) (fun wd ed _=>?_)
  replace B_b0:=zbx B_b0 ed
  replace B_b1:=zbx B_b1 ed
  replace B_b2:=zbx B_b2 ed
  replace B_b3:=zbx B_b3 ed
  replace B_b4:=zbx B_b4 ed
  replace B_b5:=zbx B_b5 ed
  replace R0:=zrx R0 ed
  replace HB:=zrx HB ed
  replace HPN:=zrx HPN ed
  replace EW:=Lib.hid (EW.out.trans ed)
  have HSS : Hid (wd.heap[b0]? = some (.cells #[.slice ca sc.length cc,.slice ua su.length uc,.slice aa sa.length ac,.slice pa sp.length pc] 31 (0,0)) ∧ wd.heap[b1]? = some (.cells #[I gen,.slice na' l.length nc',.bool true,I rc,I rt,I rk,I ra,I ro,I rn,.slice ua' PL.length uc',I de,I dn] 41 (0,0))):=⟨B_b0.out,B_b1.out⟩
  refine held_loadW 0 rfl (by kernel_rfl) (by kernel_rfl) (by kernel_rfl) (fun _ _ _ _ h=>h) rfl 31 (.tmp 2) rfl b0 rfl (fun w' hS=>hS.1) Try.underlying31 (by kernel_rfl) HSS ?_
  refine held_norm (fun K hK=>?_); go_simp; refine hK _ ?_; clear hK K
  refine held_loadW 1 rfl (by kernel_rfl) (by kernel_rfl) (by kernel_rfl) (fun _ _ _ _ h=>h) rfl 41 (.tmp 3) rfl b1 rfl (fun w' hS=>hS.2) Try.underlying41 (by kernel_rfl) HSS ?_
  refine held_norm (fun K hK=>?_); go_simp; refine hK _ ?_; clear hK K
  refine held_storeW 2 (by kernel_rfl) rfl rfl 31 (.tmp 4) (.tmp 118) rfl b2 rfl [.slice ca sc.length cc,.slice ua su.length uc,.slice aa sa.length ac,.slice pa sp.length pc] (rfl) B_b2 rfl (by kernel_rfl) rfl (fun w14_ M14=>⟨?_,?_⟩)
  ·exact ⟨M14.out.old B_b0.out (Nat.ne_of_lt D_b0_b2.out),M14.out.old B_b1.out (Nat.ne_of_lt D_b1_b2.out)⟩
  replace B_b0:=zwl M14 B_b0 D_b0_b2
  replace B_b1:=zwl M14 B_b1 D_b1_b2
  replace B_b2:=zwb M14
  replace B_b3:=zwg M14 B_b3 D_b2_b3
  replace B_b4:=zwg M14 B_b4 D_b2_b4
  replace B_b5:=zwg M14 B_b5 D_b2_b5
  replace R0:=zwr M14 R0 N_b2
  replace HB:=zwr M14 HB N_b2
  replace HPN:=zwr M14 HPN N_b2
  replace EW:=zwe M14 EW O_b2
  clear HSS
  have HSS : Hid (w14_.heap[b0]? = some (.cells #[.slice ca sc.length cc,.slice ua su.length uc,.slice aa sa.length ac,.slice pa sp.length pc] 31 (0,0)) ∧ w14_.heap[b1]? = some (.cells #[I gen,.slice na' l.length nc',.bool true,I rc,I rt,I rk,I ra,I ro,I rn,.slice ua' PL.length uc',I de,I dn] 41 (0,0))):=⟨B_b0.out,B_b1.out⟩
  refine held_norm (fun K hK=>?_); go_simp; refine hK _ ?_; clear hK K
  refine held_storeW 3 (by kernel_rfl) rfl rfl 41 (.tmp 5) (.tmp 119) rfl b3 rfl [I gen,.slice na' l.length nc',.bool true,I rc,I rt,I rk,I ra,I ro,I rn,.slice ua' PL.length uc',I de,I dn] (rfl) B_b3 rfl (by kernel_rfl) rfl (fun w15_ M15=>⟨?_,?_⟩)
  ·exact ⟨M15.out.old B_b0.out (Nat.ne_of_lt D_b0_b3.out),M15.out.old B_b1.out (Nat.ne_of_lt D_b1_b3.out)⟩
  replace B_b0:=zwl M15 B_b0 D_b0_b3
  replace B_b1:=zwl M15 B_b1 D_b1_b3
  replace B_b2:=zwl M15 B_b2 D_b2_b3
  replace B_b3:=zwb M15
  replace B_b4:=zwg M15 B_b4 D_b3_b4
  replace B_b5:=zwg M15 B_b5 D_b3_b5
  replace R0:=zwr M15 R0 N_b3
  replace HB:=zwr M15 HB N_b3
  replace HPN:=zwr M15 HPN N_b3
  replace EW:=zwe M15 EW O_b3
  clear HSS
  have HSS : Hid (w15_.heap[b0]? = some (.cells #[.slice ca sc.length cc,.slice ua su.length uc,.slice aa sa.length ac,.slice pa sp.length pc] 31 (0,0)) ∧ w15_.heap[b1]? = some (.cells #[I gen,.slice na' l.length nc',.bool true,I rc,I rt,I rk,I ra,I ro,I rn,.slice ua' PL.length uc',I de,I dn] 41 (0,0))):=⟨B_b0.out,B_b1.out⟩
  refine held_norm (fun K hK=>?_); go_simp; refine hK _ ?_; clear hK K
  refine held_value 4 (by kernel_rfl) rfl rfl _ rfl HSS.out ?_
  refine held_norm (fun K hK=>?_); go_simp; refine hK _ ?_; clear hK K
  refine held_value 5 (by kernel_rfl) rfl rfl _ rfl HSS.out ?_
  refine held_norm (fun K hK=>?_); go_simp; refine hK _ ?_; clear hK K
  refine wpAnyH_done (by kernel_rfl) ?_ _
  clear HSS
  go_wp2
  have z0:=run_box (P:=Try.prog) 31 B_b2.out Try.underlying31 (by kernel_rfl)
  have z1:=run_box (P:=Try.prog) 41 B_b3.out Try.underlying41 (by kernel_rfl)
  refine bodyPost_ret (by simp [results,Try.results32,asAddr,z0,z1]; rfl) rfl ?_
  have hX : serveM ⟨sc,su,sa,sp⟩ ⟨gen,(b :: l),false,⟨nc,nt,⟨nk,na,no,nn⟩⟩,pl,⟨se,sn⟩⟩ = (⟨sc,su,sa,sp⟩,⟨gen,l,true,⟨rc,rt,⟨rk,ra,ro,rn⟩⟩,PL,⟨de,dn⟩⟩,[],0):=by
   show (if (readRq b).2 ≠ 0 then _ else if (lastAn sa (readRq b).1.client).2 = true ∧ (readRq b).1.token ≤ (lastAn sa (readRq b).1.client).1.token then (if (lastAn sa (readRq b).1.client).1.token = (readRq b).1.token then _ else _) else _) = _
   rw [HRR.out]
   simp only []
   rw [HL.out]
   rw [if_neg (by simp),if_neg (fun h=>by cases h.1),HPL.out,HD.out]
  have ht:=HT.out
  rw [hX] at ht
  exact ⟨_,rfl,EW.out,ht _ _ _ (Rd.widen (A:=B11) (tup4_rd R0.out.left (sv_rd (v:=⟨gen,l,true,⟨rc,rt,⟨rk,ra,ro,rn⟩⟩,PL,⟨de,dn⟩⟩) HB.out HPN.out) (Rd.all fun w=>bytes_nil w)) (fun k _ h=>HK.out.2.2.2 k (I_B1.out k (I_B11.out k h))))⟩
 ·have hb2 : (lt == rt) = false:=by simp; omega
  have hb1 : ¬ rt ≤ lt:=by omega
  go_wp2_with fail
  clear d1 l1
  refine held_drew (S:=fun w'=>w'.heap[b4]? = some (.cells #[I rc,I rt,I rk,I ra,I ro,I rn] 36 (0,0))) (by kernel_rfl) (fun wd ed _=>?_)
  replace B_b0:=zbx B_b0 ed
  replace B_b1:=zbx B_b1 ed
  replace B_b2:=zbx B_b2 ed
  replace B_b3:=zbx B_b3 ed
  replace B_b4:=zbx B_b4 ed
  replace B_b5:=zbx B_b5 ed
  replace R0:=zrx R0 ed
  replace HB:=zrx HB ed
  replace EW:=Lib.hid (EW.out.trans ed)
  have HSS : Hid (wd.heap[b4]? = some (.cells #[I rc,I rt,I rk,I ra,I ro,I rn] 36 (0,0))):=B_b4.out
  refine held_loadW 0 rfl (by kernel_rfl) (by kernel_rfl) (by kernel_rfl) (fun _ _ _ _ h=>h) rfl 36 (.tmp 9) rfl b4 rfl (fun w' hS=>hS) Try.underlying36 (by kernel_rfl) HSS ?_
  refine held_norm (fun K hK=>?_); go_simp; refine hK _ ?_; clear hK K
  refine held_pure 1 rfl (by kernel_rfl) (by kernel_rfl) (by kernel_rfl) (fun _ _ _ _ h=>h) rfl HSS.out (fun K hK=>?_); go_simp; refine hK _ ?_; clear hK K
  refine held_store 2 (by kernel_rfl) rfl rfl 4 (.tmp 106) (.const (.bool true)) rfl b1 2 rfl [.bool true] (rfl) B_b1.out (Nat.le_of_ble_eq_true rfl) (by kernel_rfl) (ones_of rfl) #[I gen,.slice na' l.length nc',.bool true,I nc,I nt,I nk,I na,I no,I nn,.slice la pl.length lc,I se,I sn] ((splN_eq _ _ _ (Nat.le_of_ble_eq_true rfl)).trans rfl) (fun w10_ M10=>⟨?_,?_⟩)
  ·exact M10.out.old B_b4.out (Nat.ne_of_gt D_b1_b4.out)
  replace B_b0:=zwl M10 B_b0 D_b0_b1
  replace B_b1:=zwb M10
  replace B_b2:=zwg M10 B_b2 D_b1_b2
  replace B_b3:=zwg M10 B_b3 D_b1_b3
  replace B_b4:=zwg M10 B_b4 D_b1_b4
  replace B_b5:=zwg M10 B_b5 D_b1_b5
  replace R0:=zwr M10 R0 N_b1
  replace HB:=zwr M10 HB N_b1
  replace EW:=zwe M10 EW O_b1
  clear HSS
  have HSS : Hid (w10_.heap[b4]? = some (.cells #[I rc,I rt,I rk,I ra,I ro,I rn] 36 (0,0))):=B_b4.out
  refine held_norm (fun K hK=>?_); go_simp; refine hK _ ?_; clear hK K
  refine held_pure 3 rfl (by kernel_rfl) (by kernel_rfl) (by kernel_rfl) (fun _ _ _ _ h=>h) rfl HSS.out (fun K hK=>?_); go_simp; refine hK _ ?_; clear hK K
  refine held_store 4 (by kernel_rfl) rfl rfl 36 (.tmp 107) (.tmp 105) rfl b1 3 rfl [I rc,I rt,I rk,I ra,I ro,I rn] (rfl) B_b1.out (Nat.le_of_ble_eq_true rfl) (by kernel_rfl) (ones_of rfl) #[I gen,.slice na' l.length nc',.bool true,I rc,I rt,I rk,I ra,I ro,I rn,.slice la pl.length lc,I se,I sn] ((splN_eq _ _ _ (Nat.le_of_ble_eq_true rfl)).trans rfl) (fun w11_ M11=>⟨?_,?_⟩)
  ·exact M11.out.old B_b4.out (Nat.ne_of_gt D_b1_b4.out)
  replace B_b0:=zwl M11 B_b0 D_b0_b1
  replace B_b1:=zwb M11
  replace B_b2:=zwg M11 B_b2 D_b1_b2
  replace B_b3:=zwg M11 B_b3 D_b1_b3
  replace B_b4:=zwg M11 B_b4 D_b1_b4
  replace B_b5:=zwg M11 B_b5 D_b1_b5
  replace R0:=zwr M11 R0 N_b1
  replace HB:=zwr M11 HB N_b1
  replace EW:=zwe M11 EW O_b1
  clear HSS
  have HSS : Hid (w11_.heap[b4]? = some (.cells #[I rc,I rt,I rk,I ra,I ro,I rn] 36 (0,0))):=B_b4.out
  refine held_norm (fun K hK=>?_); go_simp; refine hK _ ?_; clear hK K
  refine wpAnyH_done (by kernel_rfl) ?_ _
  clear HSS
  have s0:=cell_of (i:=0) B_b0.out rfl
  have d2:=cell_of (i:=2) B_b4.out rfl
  have d3:=cell_of (i:=3) B_b4.out rfl
  have d4:=cell_of (i:=4) B_b4.out rfl
  have d5:=cell_of (i:=5) B_b4.out rfl
  go_wp2_with fail
  clear s0 d2 d3 d4 d5
  refine (rPlanW_any _ sc rk ra ro rn w11_ (st_iff.1 R0.out.left.out).1 HWO.out HCR.out).mono ?_
  rintro e w9 ⟨⟨uu,rfl,hu⟩,e9⟩
  replace hu : Has w11_.heap.size w9 uu (planCl (namesOf sc) ⟨rk,ra,ro,rn⟩):=hu
  rw [HPL.out] at hu
  obtain ⟨ua',uc',rfl⟩:=row_slice hu.writes
  rw [show (doCl (ofCells sc (sc.getD 0 0).toNat) ⟨rk,ra,ro,rn⟩).2 = ⟨de,dn⟩ from HD.out]
  have hsz : w.heap.size + 4 ≤ w11_.heap.size:=by have q:=(Array.getElem?_eq_some_iff.1 B_b3.out).1; have q2:=A_b3.out; omega
  have hz4 : b4 < w11_.heap.size:=(Array.getElem?_eq_some_iff.1 B_b4.out).1
  have hz5 : b5 < w11_.heap.size:=(Array.getElem?_eq_some_iff.1 B_b5.out).1
  have HPN:=Lib.hid (hu.rd.widen (B:=B11) (fun k _ h=>(HB11.out k).2 ⟨(HB1.out k).2 ⟨HK.out.2.1 k (by omega),by omega⟩,by omega⟩))
  clear hu hsz hz4 hz5
  replace B_b0:=zbx B_b0 e9
  replace B_b1:=zbx B_b1 e9
  replace B_b2:=zbx B_b2 e9
  replace B_b3:=zbx B_b3 e9
  replace B_b4:=zbx B_b4 e9
  replace B_b5:=zbx B_b5 e9
  replace R0:=zrx R0 e9
  replace HB:=zrx HB e9
  replace EW:=Lib.hid (EW.out.trans e9)
  go_wp2_with ((with_reducible refine zst (L:=[44,41,31,51]) ?_ ?_); exact rfl)
  unfold Hid
  refine wpList_storeP rfl 27 (.tmp 116) (.tmp 114) rfl b1 9 rfl [.slice ua' PL.length uc'] (rfl) B_b1 rfl (by kernel_rfl) rfl [I gen,.slice na' l.length nc',.bool true,I rc,I rt,I rk,I ra,I ro,I rn,.slice ua' PL.length uc',I se,I sn] rfl (fun w12_ M12=>?_)
  replace B_b0:=zwl M12 B_b0 D_b0_b1
  replace B_b1:=zwb M12
  replace B_b2:=zwg M12 B_b2 D_b1_b2
  replace B_b3:=zwg M12 B_b3 D_b1_b3
  replace B_b4:=zwg M12 B_b4 D_b1_b4
  replace B_b5:=zwg M12 B_b5 D_b1_b5
  replace R0:=zwr M12 R0 N_b1
  replace HB:=zwr M12 HB N_b1
  replace HPN:=zwr M12 HPN N_b1
  replace EW:=zwe M12 EW O_b1
  go_wp2_with ((with_reducible refine zst (L:=[44,41,31,51]) ?_ ?_); exact rfl)
  unfold Hid
  refine wpList_storeP rfl 39 (.tmp 117) (.tmp 115) rfl b1 10 rfl [I de,I dn] (rfl) B_b1 rfl (by kernel_rfl) rfl [I gen,.slice na' l.length nc',.bool true,I rc,I rt,I rk,I ra,I ro,I rn,.slice ua' PL.length uc',I de,I dn] rfl (fun w13_ M13=>?_)
  replace B_b0:=zwl M13 B_b0 D_b0_b1
  replace B_b1:=zwb M13
  replace B_b2:=zwg M13 B_b2 D_b1_b2
  replace B_b3:=zwg M13 B_b3 D_b1_b3
  replace B_b4:=zwg M13 B_b4 D_b1_b4
  replace B_b5:=zwg M13 B_b5 D_b1_b5
  replace R0:=zwr M13 R0 N_b1
  replace HB:=zwr M13 HB N_b1
  replace HPN:=zwr M13 HPN N_b1
  replace EW:=zwe M13 EW O_b1
  go_wp2_with fail
  refine held_drew (S:=fun w'=>w'.heap[b0]? = some (.cells #[.slice ca sc.length cc,.slice ua su.length uc,.slice aa sa.length ac,.slice pa sp.length pc] 31 (0,0)) ∧ w'.heap[b1]? = some (.cells #[I gen,.slice na' l.length nc',.bool true,I rc,I rt,I rk,I ra,I ro,I rn,.slice ua' PL.length uc',I de,I dn] 41 (0,0))) (by kernel_rfl) (fun wd ed _=>?_)
  replace B_b0:=zbx B_b0 ed
  replace B_b1:=zbx B_b1 ed
  replace B_b2:=zbx B_b2 ed
  replace B_b3:=zbx B_b3 ed
  replace B_b4:=zbx B_b4 ed
  replace B_b5:=zbx B_b5 ed
  replace R0:=zrx R0 ed
  replace HB:=zrx HB ed
  replace HPN:=zrx HPN ed
  replace EW:=Lib.hid (EW.out.trans ed)
  have HSS : Hid (wd.heap[b0]? = some (.cells #[.slice ca sc.length cc,.slice ua su.length uc,.slice aa sa.length ac,.slice pa sp.length pc] 31 (0,0)) ∧ wd.heap[b1]? = some (.cells #[I gen,.slice na' l.length nc',.bool true,I rc,I rt,I rk,I ra,I ro,I rn,.slice ua' PL.length uc',I de,I dn] 41 (0,0))):=⟨B_b0.out,B_b1.out⟩
  refine held_loadW 0 rfl (by kernel_rfl) (by kernel_rfl) (by kernel_rfl) (fun _ _ _ _ h=>h) rfl 31 (.tmp 2) rfl b0 rfl (fun w' hS=>hS.1) Try.underlying31 (by kernel_rfl) HSS ?_
  refine held_norm (fun K hK=>?_); go_simp; refine hK _ ?_; clear hK K
  refine held_loadW 1 rfl (by kernel_rfl) (by kernel_rfl) (by kernel_rfl) (fun _ _ _ _ h=>h) rfl 41 (.tmp 3) rfl b1 rfl (fun w' hS=>hS.2) Try.underlying41 (by kernel_rfl) HSS ?_
  refine held_norm (fun K hK=>?_); go_simp; refine hK _ ?_; clear hK K
  refine held_storeW 2 (by kernel_rfl) rfl rfl 31 (.tmp 4) (.tmp 118) rfl b2 rfl [.slice ca sc.length cc,.slice ua su.length uc,.slice aa sa.length ac,.slice pa sp.length pc] (rfl) B_b2 rfl (by kernel_rfl) rfl (fun w14_ M14=>⟨?_,?_⟩)
  ·exact ⟨M14.out.old B_b0.out (Nat.ne_of_lt D_b0_b2.out),M14.out.old B_b1.out (Nat.ne_of_lt D_b1_b2.out)⟩
  replace B_b0:=zwl M14 B_b0 D_b0_b2
  replace B_b1:=zwl M14 B_b1 D_b1_b2
  replace B_b2:=zwb M14
  replace B_b3:=zwg M14 B_b3 D_b2_b3
  replace B_b4:=zwg M14 B_b4 D_b2_b4
  replace B_b5:=zwg M14 B_b5 D_b2_b5
  replace R0:=zwr M14 R0 N_b2
  replace HB:=zwr M14 HB N_b2
  replace HPN:=zwr M14 HPN N_b2
  replace EW:=zwe M14 EW O_b2
  clear HSS
  have HSS : Hid (w14_.heap[b0]? = some (.cells #[.slice ca sc.length cc,.slice ua su.length uc,.slice aa sa.length ac,.slice pa sp.length pc] 31 (0,0)) ∧ w14_.heap[b1]? = some (.cells #[I gen,.slice na' l.length nc',.bool true,I rc,I rt,I rk,I ra,I ro,I rn,.slice ua' PL.length uc',I de,I dn] 41 (0,0))):=⟨B_b0.out,B_b1.out⟩
  refine held_norm (fun K hK=>?_); go_simp; refine hK _ ?_; clear hK K
  refine held_storeW 3 (by kernel_rfl) rfl rfl 41 (.tmp 5) (.tmp 119) rfl b3 rfl [I gen,.slice na' l.length nc',.bool true,I rc,I rt,I rk,I ra,I ro,I rn,.slice ua' PL.length uc',I de,I dn] (rfl) B_b3 rfl (by kernel_rfl) rfl (fun w15_ M15=>⟨?_,?_⟩)
  ·exact ⟨M15.out.old B_b0.out (Nat.ne_of_lt D_b0_b3.out),M15.out.old B_b1.out (Nat.ne_of_lt D_b1_b3.out)⟩
  replace B_b0:=zwl M15 B_b0 D_b0_b3
  replace B_b1:=zwl M15 B_b1 D_b1_b3
  replace B_b2:=zwl M15 B_b2 D_b2_b3
  replace B_b3:=zwb M15
  replace B_b4:=zwg M15 B_b4 D_b3_b4
  replace B_b5:=zwg M15 B_b5 D_b3_b5
  replace R0:=zwr M15 R0 N_b3
  replace HB:=zwr M15 HB N_b3
  replace HPN:=zwr M15 HPN N_b3
  replace EW:=zwe M15 EW O_b3
  clear HSS
  have HSS : Hid (w15_.heap[b0]? = some (.cells #[.slice ca sc.length cc,.slice ua su.length uc,.slice aa sa.length ac,.slice pa sp.length pc] 31 (0,0)) ∧ w15_.heap[b1]? = some (.cells #[I gen,.slice na' l.length nc',.bool true,I rc,I rt,I rk,I ra,I ro,I rn,.slice ua' PL.length uc',I de,I dn] 41 (0,0))):=⟨B_b0.out,B_b1.out⟩
  refine held_norm (fun K hK=>?_); go_simp; refine hK _ ?_; clear hK K
  refine held_value 4 (by kernel_rfl) rfl rfl _ rfl HSS.out ?_
  refine held_norm (fun K hK=>?_); go_simp; refine hK _ ?_; clear hK K
  refine held_value 5 (by kernel_rfl) rfl rfl _ rfl HSS.out ?_
  refine held_norm (fun K hK=>?_); go_simp; refine hK _ ?_; clear hK K
  refine wpAnyH_done (by kernel_rfl) ?_ _
  clear HSS
  go_wp2
  have z0:=run_box (P:=Try.prog) 31 B_b2.out Try.underlying31 (by kernel_rfl)
  have z1:=run_box (P:=Try.prog) 41 B_b3.out Try.underlying41 (by kernel_rfl)
  refine bodyPost_ret (by simp [results,Try.results32,asAddr,z0,z1]; rfl) rfl ?_
  have hX : serveM ⟨sc,su,sa,sp⟩ ⟨gen,(b :: l),false,⟨nc,nt,⟨nk,na,no,nn⟩⟩,pl,⟨se,sn⟩⟩ = (⟨sc,su,sa,sp⟩,⟨gen,l,true,⟨rc,rt,⟨rk,ra,ro,rn⟩⟩,PL,⟨de,dn⟩⟩,[],0):=by
   show (if (readRq b).2 ≠ 0 then _ else if (lastAn sa (readRq b).1.client).2 = true ∧ (readRq b).1.token ≤ (lastAn sa (readRq b).1.client).1.token then (if (lastAn sa (readRq b).1.client).1.token = (readRq b).1.token then _ else _) else _) = _
   rw [HRR.out]
   simp only []
   rw [HL.out]
   rw [if_neg (by simp),if_neg (fun h=>by have q:=h.2; simp only [] at q; omega),HPL.out,HD.out]
  have ht:=HT.out
  rw [hX] at ht
  exact ⟨_,rfl,EW.out,ht _ _ _ (Rd.widen (A:=B11) (tup4_rd R0.out.left (sv_rd (v:=⟨gen,l,true,⟨rc,rt,⟨rk,ra,ro,rn⟩⟩,PL,⟨de,dn⟩⟩) HB.out HPN.out) (Rd.all fun w=>bytes_nil w)) (fun k _ h=>HK.out.2.2.2 k (I_B1.out k (I_B11.out k h))))⟩

end Go.Proofs.Ytdmipnnfoolelae

namespace Go.Proofs.Ytdmipnnfoolelae
open Go.RowKit Go.Mk

/-- The cells of a client, of a server. -/
abbrev cells6c (c : Cn) (calls box got : Value) : List Value:=[calls,I c.at_,.bool c.sent,I c.gen,box,got]
abbrev cells12 (v : Sv) (box plan : Value) : List Value:=[I v.gen,box,.bool v.busy,I v.now.client,I v.now.token,I v.now.call.kind,I v.now.call.name,I v.now.call.other,I v.now.call.n,plan,I v.says.err,I v.says.n]

theorem refClientGo_keeps (c : Cn) (calls box got : Value) (me gen2 : Int) (up : Bool) (w : World) (A : Nat → Prop)
  (hc : Rd A (fun w=>RowOf 4 elCl w calls c.calls) w) (hb : Rd A (fun w=>RowOf 1 elBs w box c.box) w) (hg : Rd A (fun w=>RowOf 2 elRp w got c.got) w) (h0 : 0 ≤ c.at_) (h1 : c.at_ ≤ 1000000) (hgl : c.got.length ≤ 1000) :
  Keeps Try.prog 12 #[.agg (cells6c c calls box got).toArray,I me,I gen2,.bool up] w A (fun r w'=>Tup3 elCn (goCn c me gen2 up).1 (goCn c me gen2 up).2.1 (goCn c me gen2 up).2.2 r w'):=by
 obtain ⟨cl,at_,sent,gen,bl,gl⟩:=c
 cases bl with
 | nil=>exact refClientGo_idle cl at_ sent gen gl calls box got me gen2 up w A hc hb hg h0
 | cons b l=>exact refClientGo_hear cl at_ sent gen b l gl calls box got me gen2 up w A hc hb hg h0 h1 hgl

theorem refServe_keeps (s : St) (v : Sv) (c u a p box plan : Value) (w : World) (A : Nat → Prop) (hs : Rd A (fun w=>elSt w [c,u,a,p] s) w) (hb : Rd A (fun w=>RowOf 1 elBs w box v.box) w) (hp : Rd A (fun w=>Writes w plan v.plan) w)
  (h1 : s.cells.length * 8 ≤ 140737488355328) (h2 : (1 + s.undo.length) * 16 ≤ 140737488355328) (h3 : s.answers.length ≤ 1000) (h4 : s.past.length ≤ 1000000) (hw : v.busy = false → Weak s.cells) :
  Keeps Try.prog 32 #[.agg #[c,u,a,p],.agg (cells12 v box plan).toArray] w A (fun r w'=>Tup4 (serveM s v).1 (serveM s v).2.1 (serveM s v).2.2.1 (serveM s v).2.2.2 r w'):=by
 obtain ⟨sc,su,sa,sp⟩:=s
 obtain ⟨gen,bl,busy,⟨nc,nt,⟨nk,na,no,nn⟩⟩,pl,⟨se,sn⟩⟩:=v
 cases busy with
 | true =>
  cases pl with
  | nil=>exact refServe_done sc su sa sp gen bl nc nt nk na no nn se sn c u a p box plan w A hs hb hp h3 h4
  | cons q l=>exact refServe_write sc su sa sp gen bl nc nt nk na no nn se sn q.1 q.2 l c u a p box plan w A hs hb hp h1 h2
 | false =>
  cases bl with
  | nil=>exact refServe_wait sc su sa sp gen nc nt nk na no nn se sn pl c u a p box plan w A hs hb hp
  | cons b l=>exact refServe_take sc su sa sp gen nc nt nk na no nn se sn b l pl c u a p box plan w A hs hb hp (hw rfl)

end Go.Proofs.Ytdmipnnfoolelae

namespace Go.Proofs.Ytdmipnnfoolelae
open Go.RowKit Go.Mk

/-- Boxes of bytes, place by place. -/
theorem bss_form {w : World} {v : Value} {l : List (List UInt8)} (h : RowOf 1 elBs w v l) : ∃ ao cap,v = .slice ao l.length cap ∧ l.length ≤ cap ∧ cap ≤ maxLen ∧
  ∀ k x,l[k]? = some x → ∃ b off bv,ao = some ⟨b,off,none⟩ ∧ w.cell? ⟨b,off + k,none⟩ = some bv ∧ Bytes w bv x:=by
 obtain ⟨ao,cap,h1,h2,h3,-,h5⟩:=h.form (by decide)
 refine ⟨ao,cap,h1,h2,h3,fun k x hx=>?_⟩
 obtain ⟨b,off,c,e,-,⟨bv,rfl,hb⟩,hcell⟩:=h5 k x hx
 refine ⟨b,off,bv,e,?_,hb⟩
 have:=hcell 0 bv rfl
 rwa [Nat.mul_one,Nat.add_zero] at this

set_option maxRecDepth 100000 in
set_option maxHeartbeats 1000000 in
theorem sameBytes_eq (u v : Value) (xs : List (List UInt8)) (w : World) (hu : RowOf 1 elBs w u xs) (hv : RowOf 1 elBs w v xs) :
  Calls Try.prog 20 #[u,v] w fun e w'=>e = .returned (.bool true) ∧ Ext w w':=by
 obtain ⟨ua,uc,rfl,u1,u2,u3⟩:=bss_form hu
 obtain ⟨va,vc,rfl,v1,v2,v3⟩:=bss_form hv
 unfold maxLen at u2 v2
 have U3:=Lib.hid u3
 have V3:=Lib.hid v3
 clear u3 v3 hu hv
 go_enter Try.func20,Try.ntmps20
 go_wp2
 go_loopw [13] (fun i wr=>∃ k : Nat,k ≤ xs.length ∧ i = I k ∧ Ext w wr) (fun i _=>xs.length - (intOf i).toNat)
 case atStart=>exact ⟨0,by omega,rfl,Ext.refl _⟩
 case round =>
  obtain ⟨k,hk,rfl,he⟩:=hrel
  by_cases hlt : k < xs.length
  ·obtain ⟨x,hx⟩ : ∃ x,xs[k]? = some x:=⟨xs[k],List.getElem?_eq_getElem hlt⟩
   obtain ⟨b,off,v1,rfl,c1,h1⟩:=U3.out k x hx
   obtain ⟨b',off',v2,rfl,c2,h2⟩:=V3.out k x hx
   clear hx
   replace c1:=he.cell c1
   replace c2:=he.cell c2
   replace h1:=h1.ext he
   replace h2:=h2.ext he
   go_wp2_with fail
   refine wp_region_mono [none,none,none,none,some (.inl (.string ⟨x.toArray⟩)),none,none,none,none,some (.inl (.string ⟨x.toArray⟩)),none] (by kernel_rfl) (by kernel_rfl) ?_ ?_
   ·exact ⟨trivial,trivial,trivial,trivial,trivial,trivial,trivial,trivial,trivial,trivial,trivial,trivial⟩
   iterate 3 (refine wpM_p (fun K hK=>?_); go_simp; first | refine hK _ ?_ | refine ⟨(fun h=>by cases h),hK _ ?_⟩; clear hK K)
   refine wpM_q (v1) rfl (fun w' hw'=>by have q0:=hw'.cell c1; go_simp) ?_
   refine wpM_norm (fun K hK=>?_); go_simp; refine hK _ ?_; clear hK K
   refine wpM_x _ rfl (fun w' hw' hk=>?_) ?_
   ·have hcv:=run_string_of (P:=Try.prog) (h1.ext hw') Try.underlying24 Try.underlying5 Try.underlying9
    clear hk
    unfold makes
    go_simp
    exact ⟨Ext.refl _,rfl⟩
   refine wpM_norm (fun K hK=>?_); go_simp; refine hK _ ?_; clear hK K
   iterate 3 (refine wpM_p (fun K hK=>?_); go_simp; first | refine hK _ ?_ | refine ⟨(fun h=>by cases h),hK _ ?_⟩; clear hK K)
   refine wpM_q (v2) rfl (fun w' hw'=>by have q0:=hw'.cell c2; go_simp) ?_
   refine wpM_norm (fun K hK=>?_); go_simp; refine hK _ ?_; clear hK K
   refine wpM_x _ rfl (fun w' hw' hk=>?_) ?_
   ·have hcv:=run_string_of (P:=Try.prog) (h2.ext hw') Try.underlying24 Try.underlying5 Try.underlying9
    clear hk
    unfold makes
    go_simp
    exact ⟨Ext.refl _,rfl⟩
   refine wpM_norm (fun K hK=>?_); go_simp; refine hK _ ?_; clear hK K
   iterate 1 (refine wpM_p (fun K hK=>?_); go_simp; first | refine hK _ ?_ | refine ⟨(fun h=>by cases h),hK _ ?_⟩; clear hK K)
   refine wpM_nil ?_
   intro wn hen _
   clear c1 c2 h1 h2
   go_wp2
   go_roundw
   case rel=>exact ⟨k + 1,by omega,by go_num,he.trans hen⟩
   case measure=>simp [intOf]; omega
  ·go_wp2
   go_ret
   exact ⟨rfl,he⟩

end Go.Proofs.Ytdmipnnfoolelae

namespace Go.Proofs.Ytdmipnnfoolelae
open Go.RowKit Go.Mk

end Go.Proofs.Ytdmipnnfoolelae

namespace Go.Proofs.Ytdmipnnfoolelae
open Go.RowKit Go.Mk

theorem form_sameRp {w : World} {v : Value} {l : List Rp} (h : RowOf 2 elRp w v l) : ∃ ao cap,v = .slice ao l.length cap ∧ l.length ≤ cap ∧ cap ≤ maxLen ∧
  ∀ k x,l[k]? = some x → ∃ b off,ao = some ⟨b,off,none⟩ ∧ w.cell? ⟨b,off + k * 2,none⟩ = some (I x.err) ∧ w.cell? ⟨b,off + k * 2 + 1,none⟩ = some (I x.n):=by
 obtain ⟨ao,cap,h1,h2,h3,-,h5⟩:=h.form (by decide)
 refine ⟨ao,cap,h1,h2,h3,fun k x hx=>?_⟩
 obtain ⟨b,off,c,e,-,hc,hcell⟩:=h5 k x hx
 have hc : c = [I x.err,I x.n]:=hc
 subst hc
 exact ⟨b,off,e,hcell 0 _ rfl,by rw [Nat.add_assoc]; exact hcell 1 _ rfl⟩
set_option maxRecDepth 100000 in
set_option maxHeartbeats 1000000 in
theorem sameRp (u v : Value) (xs : List Rp) (w : World) (hu : RowOf 2 elRp w u xs) (hv : RowOf 2 elRp w v xs) :
  Calls Try.prog 21 #[u,v] w fun e w'=>e = .returned (.bool true) ∧ Ext w w':=by
 obtain ⟨ua,uc,rfl,u1,u2,u3⟩:=form_sameRp hu
 obtain ⟨va,vc,rfl,v1,v2,v3⟩:=form_sameRp hv
 unfold maxLen at u2 v2
 have U3:=Lib.hid u3
 have V3:=Lib.hid v3
 clear u3 v3 hu hv
 have hst : Try.prog.stoodInHeld 39 = false:=by kernel_rfl
 have hgd : Try.prog.eqGuardType Try.prog.depth 39 = false:=by kernel_rfl
 go_enter Try.func21,Try.ntmps21
 go_wp2
 go_loopw [13] (fun i wr=>∃ k : Nat,k ≤ xs.length ∧ i = I k ∧ Ext w wr) (fun i _=>xs.length - (intOf i).toNat)
 case atStart=>exact ⟨0,by omega,rfl,Ext.refl _⟩
 case round =>
  obtain ⟨k,hk,rfl,he⟩:=hrel
  by_cases hlt : k < xs.length
  ·obtain ⟨x,hx⟩ : ∃ x,xs[k]? = some x:=⟨xs[k],List.getElem?_eq_getElem hlt⟩
   obtain ⟨b,off,rfl,c0,c1⟩:=U3.out k x hx
   obtain ⟨b',off',rfl,d0,d1⟩:=V3.out k x hx
   clear hx
   obtain ⟨xe,xn⟩:=x
   replace c0:=he.cell c0
   replace d0:=he.cell d0
   replace c1:=he.cell c1
   replace d1:=he.cell d1
   go_wp2_with fail
   refine wp_region_mono [none,none,none,none,none,none,none,none,none] (by kernel_rfl) (by kernel_rfl) ?_ ?_
   ·exact ⟨trivial,trivial,trivial,trivial,trivial,trivial,trivial,trivial,trivial,trivial⟩
   iterate 3 (refine wpM_p (fun K hK=>?_); go_simp; first | refine hK _ ?_ | refine ⟨(fun h=>by cases h),hK _ ?_⟩; clear hK K)
   refine wpM_q (.agg #[I xe,I xn]) rfl (fun w' hw'=>by have q0:=hw'.cell c0; have q1:=hw'.cell c1; go_simp) ?_
   refine wpM_norm (fun K hK=>?_); go_simp; refine hK _ ?_; clear hK K
   iterate 3 (refine wpM_p (fun K hK=>?_); go_simp; first | refine hK _ ?_ | refine ⟨(fun h=>by cases h),hK _ ?_⟩; clear hK K)
   refine wpM_q (.agg #[I xe,I xn]) rfl (fun w' hw'=>by have q0:=hw'.cell d0; have q1:=hw'.cell d1; go_simp) ?_
   refine wpM_norm (fun K hK=>?_); go_simp; refine hK _ ?_; clear hK K
   iterate 1 (refine wpM_p (fun K hK=>?_); go_simp; first | refine hK _ ?_ | refine ⟨(fun h=>by cases h),hK _ ?_⟩; clear hK K)
   refine wpM_nil ?_
   intro wn hen _
   clear c0 c1 d0 d1
   go_wp2
   go_roundw
   case rel=>exact ⟨k + 1,by omega,by go_num,he.trans hen⟩
   case measure=>simp [intOf]; omega
  ·go_wp2
   go_ret
   exact ⟨rfl,he⟩

theorem form_sameCl {w : World} {v : Value} {l : List Cl} (h : RowOf 4 elCl w v l) : ∃ ao cap,v = .slice ao l.length cap ∧ l.length ≤ cap ∧ cap ≤ maxLen ∧
  ∀ k x,l[k]? = some x → ∃ b off,ao = some ⟨b,off,none⟩ ∧ w.cell? ⟨b,off + k * 4,none⟩ = some (I x.kind) ∧ w.cell? ⟨b,off + k * 4 + 1,none⟩ = some (I x.name) ∧ w.cell? ⟨b,off + k * 4 + 2,none⟩ = some (I x.other) ∧ w.cell? ⟨b,off + k * 4 + 3,none⟩ = some (I x.n):=by
 obtain ⟨ao,cap,h1,h2,h3,-,h5⟩:=h.form (by decide)
 refine ⟨ao,cap,h1,h2,h3,fun k x hx=>?_⟩
 obtain ⟨b,off,c,e,-,hc,hcell⟩:=h5 k x hx
 have hc : c = [I x.kind,I x.name,I x.other,I x.n]:=hc
 subst hc
 exact ⟨b,off,e,hcell 0 _ rfl,by rw [Nat.add_assoc]; exact hcell 1 _ rfl,by rw [Nat.add_assoc]; exact hcell 2 _ rfl,by rw [Nat.add_assoc]; exact hcell 3 _ rfl⟩
set_option maxRecDepth 100000 in
set_option maxHeartbeats 1000000 in
theorem sameCl (u v : Value) (xs : List Cl) (w : World) (hu : RowOf 4 elCl w u xs) (hv : RowOf 4 elCl w v xs) :
  Calls Try.prog 19 #[u,v] w fun e w'=>e = .returned (.bool true) ∧ Ext w w':=by
 obtain ⟨ua,uc,rfl,u1,u2,u3⟩:=form_sameCl hu
 obtain ⟨va,vc,rfl,v1,v2,v3⟩:=form_sameCl hv
 unfold maxLen at u2 v2
 have U3:=Lib.hid u3
 have V3:=Lib.hid v3
 clear u3 v3 hu hv
 have hst : Try.prog.stoodInHeld 34 = false:=by kernel_rfl
 have hgd : Try.prog.eqGuardType Try.prog.depth 34 = false:=by kernel_rfl
 go_enter Try.func19,Try.ntmps19
 go_wp2
 go_loopw [13] (fun i wr=>∃ k : Nat,k ≤ xs.length ∧ i = I k ∧ Ext w wr) (fun i _=>xs.length - (intOf i).toNat)
 case atStart=>exact ⟨0,by omega,rfl,Ext.refl _⟩
 case round =>
  obtain ⟨k,hk,rfl,he⟩:=hrel
  by_cases hlt : k < xs.length
  ·obtain ⟨x,hx⟩ : ∃ x,xs[k]? = some x:=⟨xs[k],List.getElem?_eq_getElem hlt⟩
   obtain ⟨b,off,rfl,c0,c1,c2,c3⟩:=U3.out k x hx
   obtain ⟨b',off',rfl,d0,d1,d2,d3⟩:=V3.out k x hx
   clear hx
   obtain ⟨xk,xa,xo,xn⟩:=x
   replace c0:=he.cell c0
   replace d0:=he.cell d0
   replace c1:=he.cell c1
   replace d1:=he.cell d1
   replace c2:=he.cell c2
   replace d2:=he.cell d2
   replace c3:=he.cell c3
   replace d3:=he.cell d3
   go_wp2_with fail
   refine wp_region_mono [none,none,none,none,none,none,none,none,none] (by kernel_rfl) (by kernel_rfl) ?_ ?_
   ·exact ⟨trivial,trivial,trivial,trivial,trivial,trivial,trivial,trivial,trivial,trivial⟩
   iterate 3 (refine wpM_p (fun K hK=>?_); go_simp; first | refine hK _ ?_ | refine ⟨(fun h=>by cases h),hK _ ?_⟩; clear hK K)
   refine wpM_q (.agg #[I xk,I xa,I xo,I xn]) rfl (fun w' hw'=>by have q0:=hw'.cell c0; have q1:=hw'.cell c1; have q2:=hw'.cell c2; have q3:=hw'.cell c3; go_simp) ?_
   refine wpM_norm (fun K hK=>?_); go_simp; refine hK _ ?_; clear hK K
   iterate 3 (refine wpM_p (fun K hK=>?_); go_simp; first | refine hK _ ?_ | refine ⟨(fun h=>by cases h),hK _ ?_⟩; clear hK K)
   refine wpM_q (.agg #[I xk,I xa,I xo,I xn]) rfl (fun w' hw'=>by have q0:=hw'.cell d0; have q1:=hw'.cell d1; have q2:=hw'.cell d2; have q3:=hw'.cell d3; go_simp) ?_
   refine wpM_norm (fun K hK=>?_); go_simp; refine hK _ ?_; clear hK K
   iterate 1 (refine wpM_p (fun K hK=>?_); go_simp; first | refine hK _ ?_ | refine ⟨(fun h=>by cases h),hK _ ?_⟩; clear hK K)
   refine wpM_nil ?_
   intro wn hen _
   clear c0 c1 c2 c3 d0 d1 d2 d3
   go_wp2
   go_roundw
   case rel=>exact ⟨k + 1,by omega,by go_num,he.trans hen⟩
   case measure=>simp [intOf]; omega
  ·go_wp2
   go_ret
   exact ⟨rfl,he⟩

set_option maxRecDepth 100000 in
set_option maxHeartbeats 2000000 in
theorem sameClient_eq (c : Cn) (x1 x2 x3 y1 y2 y3 : Value) (w : World) (hx : elCn w [x1,I c.at_,.bool c.sent,I c.gen,x2,x3] c) (hy : elCn w [y1,I c.at_,.bool c.sent,I c.gen,y2,y3] c) :
  Calls Try.prog 10 #[.agg #[x1,I c.at_,.bool c.sent,I c.gen,x2,x3],.agg #[y1,I c.at_,.bool c.sent,I c.gen,y2,y3]] w fun e w'=>e = .returned (.bool true) ∧ Ext w w':=by
 have HX:=Lib.hid (cn_iff.1 hx)
 have HY:=Lib.hid (cn_iff.1 hy)
 clear hx hy
 obtain ⟨cl,at_,sent,gen,bl,gl⟩:=c
 have EW:=Lib.hid (Ext.refl w)
 go_enter Try.func10,Try.ntmps10
 go_wp2_with ((with_reducible refine zst (L:=[44,41,31,51]) ?_ ?_); exact rfl)
 unfold Hid
 refine wpList_boxB rfl 51 (.tmp 0) rfl #[x1,I at_,.bool sent,I gen,x2,x3] rfl (fun b0 w1_ M1=>?_)
 have B_b0:=zmb M1
 replace EW:=zet EW M1
 go_wp2_with ((with_reducible refine zst (L:=[44,41,31,51]) ?_ ?_); exact rfl)
 unfold Hid
 refine wpList_boxB rfl 51 (.tmp 1) rfl #[y1,I at_,.bool sent,I gen,y2,y3] rfl (fun b1 w2_ M2=>?_)
 have D_b0_b1:=zld B_b0 M2
 replace B_b0:=zmo M2 B_b0
 have B_b1:=zmb M2
 replace EW:=zet EW M2
 have c0:=cell_of (i:=0) B_b0.out rfl
 have d0:=cell_of (i:=0) B_b1.out rfl
 have c1:=cell_of (i:=1) B_b0.out rfl
 have d1:=cell_of (i:=1) B_b1.out rfl
 have c2:=cell_of (i:=2) B_b0.out rfl
 have d2:=cell_of (i:=2) B_b1.out rfl
 have c3:=cell_of (i:=3) B_b0.out rfl
 have d3:=cell_of (i:=3) B_b1.out rfl
 have c4:=cell_of (i:=4) B_b0.out rfl
 have d4:=cell_of (i:=4) B_b1.out rfl
 have c5:=cell_of (i:=5) B_b0.out rfl
 have d5:=cell_of (i:=5) B_b1.out rfl
 go_wp2_with fail
 clear c0 c1 c2 c3 c4 c5 d0 d1 d2 d3 d4 d5
 refine Calls.exts (sameCl _ _ cl w2_ (HX.out.1.ext monoCl EW.out) (HY.out.1.ext monoCl EW.out)) (fun wa ea=>?_)
 replace B_b0:=zbx B_b0 ea
 replace B_b1:=zbx B_b1 ea
 replace EW:=Lib.hid (EW.out.trans ea)
 have c0:=cell_of (i:=0) B_b0.out rfl
 have d0:=cell_of (i:=0) B_b1.out rfl
 have c1:=cell_of (i:=1) B_b0.out rfl
 have d1:=cell_of (i:=1) B_b1.out rfl
 have c2:=cell_of (i:=2) B_b0.out rfl
 have d2:=cell_of (i:=2) B_b1.out rfl
 have c3:=cell_of (i:=3) B_b0.out rfl
 have d3:=cell_of (i:=3) B_b1.out rfl
 have c4:=cell_of (i:=4) B_b0.out rfl
 have d4:=cell_of (i:=4) B_b1.out rfl
 have c5:=cell_of (i:=5) B_b0.out rfl
 have d5:=cell_of (i:=5) B_b1.out rfl
 go_wp2_with fail
 clear c0 c1 c2 c3 c4 c5 d0 d1 d2 d3 d4 d5
 refine Calls.exts (sameBytes_eq _ _ bl wa (HX.out.2.1.ext monoBs EW.out) (HY.out.2.1.ext monoBs EW.out)) (fun wb eb=>?_)
 replace B_b0:=zbx B_b0 eb
 replace B_b1:=zbx B_b1 eb
 replace EW:=Lib.hid (EW.out.trans eb)
 have c0:=cell_of (i:=0) B_b0.out rfl
 have d0:=cell_of (i:=0) B_b1.out rfl
 have c1:=cell_of (i:=1) B_b0.out rfl
 have d1:=cell_of (i:=1) B_b1.out rfl
 have c2:=cell_of (i:=2) B_b0.out rfl
 have d2:=cell_of (i:=2) B_b1.out rfl
 have c3:=cell_of (i:=3) B_b0.out rfl
 have d3:=cell_of (i:=3) B_b1.out rfl
 have c4:=cell_of (i:=4) B_b0.out rfl
 have d4:=cell_of (i:=4) B_b1.out rfl
 have c5:=cell_of (i:=5) B_b0.out rfl
 have d5:=cell_of (i:=5) B_b1.out rfl
 go_wp2_with fail
 clear c0 c1 c2 c3 c4 c5 d0 d1 d2 d3 d4 d5
 refine Calls.exts (sameRp _ _ gl wb (HX.out.2.2.ext monoRp EW.out) (HY.out.2.2.ext monoRp EW.out)) (fun wc ec=>?_)
 replace B_b0:=zbx B_b0 ec
 replace B_b1:=zbx B_b1 ec
 replace EW:=Lib.hid (EW.out.trans ec)
 have c0:=cell_of (i:=0) B_b0.out rfl
 have d0:=cell_of (i:=0) B_b1.out rfl
 have c1:=cell_of (i:=1) B_b0.out rfl
 have d1:=cell_of (i:=1) B_b1.out rfl
 have c2:=cell_of (i:=2) B_b0.out rfl
 have d2:=cell_of (i:=2) B_b1.out rfl
 have c3:=cell_of (i:=3) B_b0.out rfl
 have d3:=cell_of (i:=3) B_b1.out rfl
 have c4:=cell_of (i:=4) B_b0.out rfl
 have d4:=cell_of (i:=4) B_b1.out rfl
 have c5:=cell_of (i:=5) B_b0.out rfl
 have d5:=cell_of (i:=5) B_b1.out rfl
 go_wp2
 go_ret
 exact ⟨rfl,EW.out⟩

end Go.Proofs.Ytdmipnnfoolelae

namespace Go.Proofs.Ytdmipnnfoolelae
open Go.RowKit Go.Mk

/-- A client as machines have them. -/
structure GoodC (c : Cn) : Prop where
 at0 : 0 ≤ c.at_
 at1 : c.at_ ≤ 900
 calls : c.calls.length ≤ 8 ∧ ∀ x ∈ c.calls,wrongCl x = 0
 got : c.got.length ≤ 900
 box : c.box.length ≤ 900
 bytes : ∀ b ∈ c.box,b.length ≤ 140737488355328

/-- What is asked of client.Come. -/
def ComeOk : Prop:=∀ (c : Cn) (calls box got bv : Value) (b : List UInt8) (w : World) (A : Nat → Prop),Rd A (fun w=>RowOf 4 elCl w calls c.calls) w → Rd A (fun w=>RowOf 1 elBs w box c.box) w → Rd A (fun w=>RowOf 2 elRp w got c.got) w → Rd A (fun w=>Bytes w bv b) w → GoodC c → b.length ≤ 140737488355328 →
 Keeps Try.prog 8 #[.agg #[calls,I c.at_,.bool c.sent,I c.gen,box,got],bv] w A (fun r w'=>Agg elCn (comeCn c b) r w')
/-- What is asked of client.Go. -/
def GoOk : Prop:=∀ (c : Cn) (calls box got : Value) (me gen : Int) (up : Bool) (w : World) (A : Nat → Prop),Rd A (fun w=>RowOf 4 elCl w calls c.calls) w → Rd A (fun w=>RowOf 1 elBs w box c.box) w → Rd A (fun w=>RowOf 2 elRp w got c.got) w → GoodC c → 0 ≤ me → me ≤ 2 →
 Keeps Try.prog 11 #[.agg #[calls,I c.at_,.bool c.sent,I c.gen,box,got],I me,I gen,.bool up] w A (fun r w'=>Tup3 elCn (goCn c me gen up).1 (goCn c me gen up).2.1 (goCn c me gen up).2.2 r w')

theorem good_inv {l : List (List Cl)} (hl : rightL l) {m : Mc} {ks : List Nat} {bz : Option Nat} (h : MInv l m ks bz) {k : Nat} (hs : SizeM m k) (hk : k ≤ 800) : ∀ c ∈ m.clients,GoodC c ∧ c.box.length ≤ 1:=fun c hc=>by
 obtain ⟨i,hi⟩:=List.mem_iff_getElem?.1 hc
 have hci:=h.clients i c hi
 have h6:=hs.each c hc
 have hat:=hci.at_
 have hb : c.box.length ≤ 1 ∧ ∀ b ∈ c.box,b.length ≤ 140737488355328:=by
  cases hci.phase with
  | rest _ _ _ e _=>rw [e]; exact ⟨Nat.zero_le _,fun b hb=>by cases hb⟩
  | wait _ _ _ _ e _=>rw [e]; exact ⟨Nat.zero_le _,fun b hb=>by cases hb⟩
  | work _ _ _ _ e _ _=>rw [e]; exact ⟨Nat.zero_le _,fun b hb=>by cases hb⟩
  | lost _ _ _ e _ _=>rw [e]; exact ⟨Nat.zero_le _,fun b hb=>by cases hb⟩
  | hear _ _ _ _ e =>
   rw [e]
   refine ⟨Nat.le_refl _,fun b hb=>?_⟩
   rw [List.mem_singleton.1 hb]
   exact Nat.le_trans (Nat.le_of_eq rfl) (by decide : (8 : Nat) ≤ 140737488355328)
 refine ⟨⟨by omega,by omega,?_,by omega,by omega,hb.2⟩,hb.1⟩
 rw [hci.calls,List.getD_eq_getElem?_getD]
 cases e : l[i]? with
 | none=>exact ⟨Nat.zero_le _,fun x hx=>by cases hx⟩
 | some y=>exact hl.2 y (List.mem_of_getElem? e)
theorem good_play {l : List (List Cl)} (hl : rightL l) (steps : List (Int × Int)) : ∀ c ∈ (playM (newMc l) (steps.take 400)).clients,GoodC c ∧ c.box.length ≤ 1:=by
 obtain ⟨ks,bz,h⟩:=inv_all hl (steps.take 400)
 exact good_inv hl h ((size_play (size_new l) (steps.take 400)).mono (j:=400) (by rw [List.length_take]; omega)) (by decide)
theorem good_come {c : Cn} (h : GoodC c) (hb : c.box.length ≤ 1) {b : List UInt8} (hl : b.length ≤ 140737488355328) : GoodC (comeCn c b):=by
 unfold comeCn
 rw [if_pos (by omega)]
 refine ⟨h.at0,h.at1,h.calls,h.got,?_,fun x hx=>?_⟩
 ·simp only [List.length_append,List.length_cons,List.length_nil]
  omega
 ·simp only [List.mem_append,List.mem_singleton] at hx
  rcases hx with hx | rfl
  ·exact h.bytes x hx
  ·exact hl

/-- Described, wherever it lies. -/
theorem rdT_of {X : Type} {R : El X} (hR : HeapR R) {w : World} {size : Nat} {v : Value} {xs : List X} (h : RowOf size R w v xs) : Rd (fun _=>True) (fun w=>RowOf size R w v xs) w:=Rd.widen (Rd.of (rowOf_heap hR _ _) h) (fun _ _ _=>trivial)

theorem code_normC {P : Program} {c : Code} {Q : Exit → Act → World → Prop} {a : Act} {w : World} (h : ∀ K : Act → Prop,(∀ a',c.wp P Q a' w → K a') → K a) : c.wp P Q a w:=h _ (fun _ h=>h)
theorem zgrC {w : World} {B C : Nat → Prop} {b : Nat} {x : Obj} (h : Hid (∀ k,C k ↔ (B k ∨ w.heap.size ≤ k))) (n : Hid (¬ B b)) (hb : Hid (w.heap[b]? = some x)) : Hid (¬ C b):=fun q=>by
 rcases (h.out _).1 q with q | q
 ·exact n.out q
 ·have:=(Array.getElem?_eq_some_iff.1 hb.out).1
  omega
theorem wpList_loadGC {P : Program} {ops : Array Oper} {rest : List Oper} {o : Oper} {a : Act} {w : World} {Q : Exit → Act → World → Prop} (hw : Region.wanted o (yielded ops a.tmps) = true) (ty : TypeId) (x : Operand) (ho : o.op = .load ty x) (b off : Nat) (hx : a.eval x = .pointer (some ⟨b,off,none⟩)) {cs : Array Value} {t : TypeId} (hg : Hid (w.heap[b]? = some (.cells cs t (0,0))))
  (vs : List Value) (hsub : (cs.toList.drop off).take vs.length = vs) {fs : Array Field} (hu : P.underlying ty = some (.struct fs)) (hi : (P.info? ty).map (·.size) = some vs.length)
  (h : ∀ v,Hid (v = .agg vs.toArray) → wpList P ops Q rest (a.put o.dst v) w) : wpList P ops Q (o :: rest) a w:=by
 refine wpList_step fun K hK=>?_
 rw [if_pos hw]
 unfold Oper.wp
 rw [run_loadM ty x ho b off hx hg.out vs hsub hu hi,Oper.upon_value]
 exact hK _ _ (h _ rfl)
theorem held_three {P : Program} {md : Region.Mode} {ops : Array Oper} {Q : Exit → Act → World → Prop} {S : World → Prop} {fuel : Nat} {listed : Array Bool} {a : Act} {w : World} (i j l : Nat) (hr : Region.ready md ops listed = [i,j,l]) (h1 : wpOp P ops Q i (fun a' w'=>S w' ∧ wpAnyH P md ops Q S fuel (listed.setIfInBounds i true) a' w') a w)
  (h2 : wpOp P ops Q j (fun a' w'=>S w' ∧ wpAnyH P md ops Q S fuel (listed.setIfInBounds j true) a' w') a w) (h3 : wpOp P ops Q l (fun a' w'=>S w' ∧ wpAnyH P md ops Q S fuel (listed.setIfInBounds l true) a' w') a w) : wpAnyH P md ops Q S (fuel + 1) listed a w :=
 wpAnyH_all hr (by simp) (fun k hk=>by
  simp only [List.mem_cons,List.not_mem_nil,or_false] at hk
  rcases hk with rfl | rfl | rfl
  ·exact h1
  ·exact h2
  ·exact h3)

/-- Where a row lies. -/
theorem rd_row_cells {w : World} {size n : Nat} {v : Value} {cs : List Value} {B : Nat → Prop} (h : Row w size v n cs) (hB : ∀ g off m cap,v = .slice (some ⟨g,off,none⟩) m cap → cs ≠ [] → (∀ j u,cs[j]? = some u → w.cell? ⟨g,off + j,none⟩ = some u) → B g) : Rd B (fun w=>Row w size v n cs) w:=fun w2 h2=>by
 refine Row.heap h (fun j u b off hj ⟨m,cap,e⟩=>?_)
 obtain ⟨hl,ao,cap',e',h3,h4,h0,h5⟩:=id h
 have hall : ∀ j u,cs[j]? = some u → w.cell? ⟨b,off + j,none⟩ = some u:=fun j u hj=>by
  obtain ⟨b',off',e2,hc⟩:=h5 j u hj
  rw [e,e2] at e'
  simp only [Value.slice.injEq,Option.some.injEq,Addr.mk.injEq,and_true] at e'
  obtain ⟨⟨rfl,rfl⟩,_,_⟩:=e'
  exact hc
 exact h2 b (hB b off m cap e (fun e0=>by rw [e0] at hj; simp at hj) hall) (Nat.lt_of_lt_of_le (cell_lt (hall j u hj)) (Nat.le_refl _))
theorem virgin_two {w : World} {b off : Nat} {t : TypeId} {i j : Int} (hb : w.heap[b]? = some (.cells #[.slice none 0 0,I 0,.bool false,I 0,.slice none 0 0,.slice none 0 0] t (0,0))) (h0 : w.cell? ⟨b,off,none⟩ = some (I i)) (h1 : w.cell? ⟨b,off + 1,none⟩ = some (I j)) : False:=by
 rw [cells_at hb] at h0 h1
 match off,h0,h1 with
 | 0,h0,h1=>simp at h0
 | 1,h0,h1=>simp at h1
 | 2,h0,h1=>simp at h0
 | 3,h0,h1=>simp at h1
 | 4,h0,h1=>simp at h0
 | 5,h0,h1=>simp at h0
 | k + 6,h0,h1=>simp at h0
theorem virgin_one {w : World} {b off : Nat} {t : TypeId} {u : Value} (hb : w.heap[b]? = some (.cells #[.slice none 0 0,I 0,.bool false,I 0,.slice none 0 0,.slice none 0 0] t (0,0))) (h0 : w.cell? ⟨b,off,none⟩ = some u) : u = .slice none 0 0 ∨ u = I 0 ∨ u = .bool false:=by
 rw [cells_at hb] at h0
 match off,h0 with
 | 0,h0=>exact .inl (by simpa using h0.symm)
 | 1,h0=>exact .inr (.inl (by simpa using h0.symm))
 | 2,h0=>exact .inr (.inr (by simpa using h0.symm))
 | 3,h0=>exact .inr (.inl (by simpa using h0.symm))
 | 4,h0=>exact .inl (by simpa using h0.symm)
 | 5,h0=>exact .inl (by simpa using h0.symm)
 | k + 6,h0=>simp at h0
/-- What a client has lies in no new client's box. -/
theorem cn_off {w : World} {b : Nat} {t : TypeId} {calls box got : Value} {c : Cn} (hb : w.heap[b]? = some (.cells #[.slice none 0 0,I 0,.bool false,I 0,.slice none 0 0,.slice none 0 0] t (0,0))) (h1 : RowOf 4 elCl w calls c.calls) (h2 : RowOf 1 elBs w box c.box) (h3 : RowOf 2 elRp w got c.got) (hx : ∀ y ∈ c.box,y ≠ []) : Rd (fun k=>k ≠ b) (fun w=>elCn w [calls,I c.at_,.bool c.sent,I c.gen,box,got] c) w:=by
 have r1 : Rd (fun k=>k ≠ b) (fun w=>Row w 4 calls c.calls.length (c.calls.flatMap fun x=>[I x.kind,I x.name,I x.other,I x.n])) w:=rd_row_cells ((rowOf_flat (f:=fun (x : Cl)=>[I x.kind,I x.name,I x.other,I x.n]) (fun _=>rfl)).1 h1) fun g off m cap _ hne hall=>by
  rintro rfl
  cases e : c.calls with
  | nil=>rw [e] at hne; exact hne rfl
  | cons a l =>
   rw [e] at hall
   exact virgin_two hb (hall 0 (I a.kind) rfl) (hall 1 (I a.name) rfl)
 have r3 : Rd (fun k=>k ≠ b) (fun w=>Row w 2 got c.got.length (c.got.flatMap fun x=>[I x.err,I x.n])) w:=rd_row_cells ((rowOf_flat (f:=fun (x : Rp)=>[I x.err,I x.n]) (fun _=>rfl)).1 h3) fun g off m cap _ hne hall=>by
  rintro rfl
  cases e : c.got with
  | nil=>rw [e] at hne; exact hne rfl
  | cons a l =>
   rw [e] at hall
   exact virgin_two hb (hall 0 (I a.err) rfl) (hall 1 (I a.n) rfl)
 obtain ⟨css,he,hrow⟩:=h2
 have hval : ∀ i c' y,css[i]? = some c' → c.box[i]? = some y → ∃ bv,c' = [bv] ∧ Bytes w bv y:=fun i c' y hc hy=>by
  obtain ⟨_,bv,e,hB⟩:=he.2 i c' y hc hy
  exact ⟨bv,e,hB⟩
 have r2 : Rd (fun k=>k ≠ b) (fun w=>Row w 1 box c.box.length css.flatten) w:=rd_row_cells hrow fun g off m cap _ hne hall=>by
  rintro rfl
  cases e : css with
  | nil=>rw [e] at hne; exact hne rfl
  | cons c' l =>
   have hl : c.box.length = css.length:=he.1.symm
   cases ey : c.box with
   | nil=>rw [e,ey] at hl; simp at hl
   | cons y l' =>
    obtain ⟨bv,rfl,hB⟩:=hval 0 c' y (by rw [e]; rfl) (by rw [ey]; rfl)
    rw [e] at hall
    obtain ⟨ao,cap',hbv⟩:=row_slice hB
    have hy : y ≠ []:=hx y (by rw [ey]; simp)
    have h0:=hall 0 bv rfl
    rw [Nat.add_zero] at h0
    rcases virgin_one hb h0 with h | h | h
    ·rw [hbv] at h
     simp only [Value.slice.injEq] at h
     exact hy (List.eq_nil_of_length_eq_zero (by simpa using h.2.1))
    ·rw [hbv] at h; cases h
    ·rw [hbv] at h; cases h
 have r4 : Rd (fun k=>k ≠ b) (fun w=>∀ i c' y,css[i]? = some c' → c.box[i]? = some y → elBs w c' y) w:=fun w2 hk i c' y hc hy=>by
  obtain ⟨bv,rfl,hB⟩:=hval i c' y hc hy
  refine ⟨bv,rfl,?_⟩
  refine rd_row_cells (B:=fun k=>k ≠ b) hB (fun g off m cap _ hne hall=>?_) w2 hk
  rintro rfl
  cases e : y with
  | nil=>rw [e] at hne; exact hne rfl
  | cons z l =>
   rw [e] at hall
   have h0:=hall 0 (U z) rfl
   rw [Nat.add_zero] at h0
   rcases virgin_one hb h0 with h | h | h <;> cases h
 refine ((r1.and r3).and (r2.and r4)).imp fun w' hw=>?_
 refine cn_iff.2 ⟨(rowOf_flat (f:=fun (x : Cl)=>[I x.kind,I x.name,I x.other,I x.n]) (fun _=>rfl)).2 hw.1.1,⟨css,⟨he.1,fun i c' y hc hy=>⟨(he.2 i c' y hc hy).1,hw.2.2 i c' y hc hy⟩⟩,hw.2.1⟩,(rowOf_flat (f:=fun (x : Rp)=>[I x.err,I x.n]) (fun _=>rfl)).2 hw.1.2⟩

end Go.Proofs.Ytdmipnnfoolelae
