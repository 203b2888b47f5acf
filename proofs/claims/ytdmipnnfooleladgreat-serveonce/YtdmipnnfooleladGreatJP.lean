/- Texts of the proof, merged: V4 S9 S10. -/
import Derived.Test.YtdmipnnfooleladGreatJN
import Derived.Test.YtdmipnnfooleladGreatJG
import Derived.Test.YtdmipnnfooleladGreatJH
import Derived.Test.YtdmipnnfooleladGreatJO
import Derived.Test.YtdmipnnfooleladGreatJM
import Derived.Test.YtdmipnnfooleladGreatJC

namespace Go.Proofs.YtdmipnnfooleladGreat
open Go.RowKit Go.Mk
set_option maxRecDepth 100000

/-- A server and bytes. -/
def TupB (v : Sv) (b : List UInt8) (r : Value) (w : World) : Prop:=∃ (ds : List Value) (bv : Value),r = .tuple #[.agg ds.toArray,bv] ∧ elSv w ds v ∧ Bytes w bv b
theorem rd_tupB {v : Sv} {b : List UInt8} {r : Value} {A : Nat → Prop} {w : World} (h : Rd A (TupB v b r) w) : ∃ (ds : List Value) (bv : Value),r = .tuple #[.agg ds.toArray,bv] ∧ Rd A (fun w=>elSv w ds v) w ∧ Rd A (fun w=>Bytes w bv b) w:=by
 obtain ⟨ds,bv,e1,h1,h2⟩:=h.out
 have key : ∀ w',TupB v b r w' → elSv w' ds v ∧ Bytes w' bv b:=fun w' hw=>by
  obtain ⟨ds',bv',e1',h3,h4⟩:=hw
  rw [e1] at e1'
  simp only [Value.tuple.injEq,Array.mk.injEq,List.cons.injEq,Value.agg.injEq,and_true] at e1'
  obtain ⟨q1,q2⟩:=e1'
  have q1 : ds = ds':=by simpa using q1
  subst q1 q2
  exact ⟨h3,h4⟩
 exact ⟨ds,bv,e1,h.imp fun w' hw=>(key w' hw).1,h.imp fun w' hw=>(key w' hw).2⟩
theorem tupB_rd {v : Sv} {b : List UInt8} {ds : List Value} {bv : Value} {A : Nat → Prop} {w : World} (h2 : Rd A (fun w=>elSv w ds v) w) (h3 : Rd A (fun w=>Bytes w bv b) w) : Rd A (TupB v b (.tuple #[.agg ds.toArray,bv])) w :=
 (h2.and h3).imp fun _ h=>⟨ds,bv,rfl,h.1,h.2⟩
theorem ownB_rd {base : Nat} {w : World} {v : Value} {l : List UInt8} {n : Nat} (hn : l.length = n) (h : w.ownsRow base 5 1 v n (l.map U)) : Rd (fun k=>base ≤ k) (fun w=>Bytes w v l) w:=by
 subst hn
 exact rd_owns h

set_option maxHeartbeats 1000000 in
theorem last_keeps (c u a p : Value) (s : St) (n : Int) (w : World) (h : elSt w [c,u,a,p] s) :
  Keeps Tryz.prog 32 #[.agg #[c,u,a,p],I n] w (fun _=>False) (fun r w'=>Bytes w' r (ansB (lastAn s.answers n).1)):=by
 unfold Keeps
 obtain ⟨h1,h2,h3,h4⟩:=st_iff.1 h
 obtain ⟨ca,cc,rfl⟩:=row_slice h1
 obtain ⟨ua,uc,rfl⟩:=row_slice h2
 obtain ⟨aa,ac,rfl⟩:=rowOf_slice h3
 obtain ⟨pa,pc,rfl⟩:=rowOf_slice h4
 clear h1 h2 h3 h4
 have HE:=Lib.hid h
 clear h
 have EW:=Lib.hid (Ext.refl w)
 obtain ⟨⟨lc2,lt,⟨le,ln⟩⟩,LB,hL⟩ : ∃ x y,lastAn s.answers n = (x,y):=⟨_,_,rfl⟩
 have HL:=Lib.hid hL
 rw [hL]
 clear hL
 go_enter Tryz.func32,Tryz.ntmps32
 go_wp2_with ((with_reducible refine zst (L:=[44,41,31,100]) ?_ ?_); exact rfl)
 unfold Hid
 refine wpList_boxB rfl 31 (.tmp 0) rfl #[.slice ca s.cells.length cc,.slice ua s.undo.length uc,.slice aa s.answers.length ac,.slice pa s.past.length pc] rfl (fun b0 w1_ M1=>?_)
 have B_b0:=zmb M1
 replace EW:=zet EW M1
 go_wp2_with ((with_reducible refine zst (L:=[44,41,31,100]) ?_ ?_); exact rfl)
 unfold Hid
 refine wpList_loadM rfl 31 (.tmp 2) rfl b0 0 rfl B_b0.out [.slice ca s.cells.length cc,.slice ua s.undo.length uc,.slice aa s.answers.length ac,.slice pa s.past.length pc] rfl Tryz.underlying31 (by kernel_rfl) (fun v8 H_v8=>?_)
 go_wp2_with fail
 rw [show _ = Value.agg #[.slice ca s.cells.length cc,.slice ua s.undo.length uc,.slice aa s.answers.length ac,.slice pa s.past.length pc] from H_v8.out]
 have hl:=Last_any _ _ _ _ s n w1_ (monoSt _ _ _ _ EW.out HE.out)
 rw [HL.out] at hl
 refine Calls.exts hl (fun wl el=>?_)
 clear hl H_v8
 replace B_b0:=Lib.hid (blk_ext B_b0.out el)
 replace EW:=Lib.hid (EW.out.trans el)
 clear el
 go_wp2_with ((with_reducible refine zst (L:=[44,41,31,100]) ?_ ?_); exact rfl)
 unfold Hid
 refine wpList_allocB rfl 59 #[I 0,I 0,I 0,I 0] (by kernel_rfl) (fun b1 w2_ M2=>?_)
 have D_b0_b1:=zld B_b0 M2
 replace B_b0:=zmo M2 B_b0
 have B_b1:=zmb M2
 replace EW:=zet EW M2
 have O_b1 : Hid (w.heap.size ≤ b1):=by unfold Hid; have q:=M2.out.size; have q2:=EW.out.size; have q3:=M2.out.at_; have q4:=D_b0_b1.out; have q5:=(Array.getElem?_eq_some_iff.1 B_b0.out).1; have q6:=M1.out.at_; omega
 go_wp2_with ((with_reducible refine zst (L:=[44,41,31,100]) ?_ ?_); exact rfl)
 unfold Hid
 refine wpList_storeM rfl 59 (.tmp 5) (.tmp 11) rfl b1 0 rfl [I lc2,I lt,I le,I ln] (rfl) B_b1.out (Nat.le_of_ble_eq_true rfl) (by kernel_rfl) (ones_of rfl) #[I lc2,I lt,I le,I ln] ((splN_eq _ _ _ (Nat.le_of_ble_eq_true rfl)).trans rfl) (fun w3_ M3=>?_)
 replace B_b0:=zwl M3 B_b0 D_b0_b1
 replace B_b1:=zwb M3
 replace EW:=zwe M3 EW O_b1
 have l0:=cell_of (i:=0) B_b1.out rfl
 have l1:=cell_of (i:=1) B_b1.out rfl
 have l2:=cell_of (i:=2) B_b1.out rfl
 have l3:=cell_of (i:=3) B_b1.out rfl
 go_wp2_with fail
 clear l0 l1 l2 l3
 refine (Answer_any lc2 lt le ln w3_).mono ?_
 rintro e w9 ⟨v',rfl,ho,e9⟩
 have hb:=ownB_rd (l:=ansB ⟨lc2,lt,⟨le,ln⟩⟩) rfl ho
 have hsz:=EW.out.size
 replace B_b0:=Lib.hid (blk_ext B_b0.out e9)
 replace B_b1:=Lib.hid (blk_ext B_b1.out e9)
 replace EW:=Lib.hid (EW.out.trans e9)
 go_wp2
 go_ret
 exact ⟨_,rfl,EW.out,hb.widen fun k _ h=>.inr (by omega)⟩

set_option maxHeartbeats 4000000 in
theorem take_keeps (sc : List Int) (su : List (Int × Int)) (sa : List An) (sp : List Rq) (gen : Int) (nc nt nk na no nn : Int) (se sn : Int) (b : List UInt8) (l : List (List UInt8)) (pl : List (Int × Int)) (c u a p box plan : Value) (w : World) (A : Nat → Prop) (hs : Rd A (fun w=>elSt w [c,u,a,p] ⟨sc,su,sa,sp⟩) w) (hb : Rd A (fun w=>RowOf 1 elBs w box (b :: l)) w) (hp : Rd A (fun w=>Writes w plan pl) w) (hwo : Weak sc) :
  Keeps Tryz.prog 33 #[.agg #[c,u,a,p],.agg #[I gen,box,.bool false,I nc,I nt,I nk,I na,I no,I nn,plan,I se,I sn]] w A (fun r w'=>TupB (serveM ⟨sc,su,sa,sp⟩ ⟨gen,(b :: l),false,⟨nc,nt,⟨nk,na,no,nn⟩⟩,pl,⟨se,sn⟩⟩).2.1 (serveM ⟨sc,su,sa,sp⟩ ⟨gen,(b :: l),false,⟨nc,nt,⟨nk,na,no,nn⟩⟩,pl,⟨se,sn⟩⟩).2.2.1 r w'):=by
 suffices hall : ∀ T : Value → World → Prop,(∀ r A w,Rd A (TupB (serveM ⟨sc,su,sa,sp⟩ ⟨gen,(b :: l),false,⟨nc,nt,⟨nk,na,no,nn⟩⟩,pl,⟨se,sn⟩⟩).2.1 (serveM ⟨sc,su,sa,sp⟩ ⟨gen,(b :: l),false,⟨nc,nt,⟨nk,na,no,nn⟩⟩,pl,⟨se,sn⟩⟩).2.2.1 r) w → Rd A (T r) w) → Keeps Tryz.prog 33 #[.agg #[c,u,a,p],.agg #[I gen,box,.bool false,I nc,I nt,I nk,I na,I no,I nn,plan,I se,I sn]] w A T from hall _ (fun _ _ _ h=>h)
 intro T hT
 have HT:=Lib.hid hT
 clear hT
 unfold Keeps
 obtain ⟨h1,h2,h3,h4⟩:=st_iff.1 hs.out
 obtain ⟨ca,cc,rfl⟩:=row_slice h1
 obtain ⟨ua,uc,rfl⟩:=row_slice h2
 obtain ⟨aa,ac,rfl⟩:=rowOf_slice h3
 obtain ⟨pa,pc,rfl⟩:=rowOf_slice h4
 simp only [] at *
 have EW:=Lib.hid (Ext.refl w)
 obtain ⟨B,hB⟩:=away A w.heap.size 3
 have HK:=Lib.hid hB
 clear hB
 have R0:=Lib.hid ((hs.and hp).widen HK.out.1)
 obtain ⟨la,lc,rfl⟩:=row_slice hp.out
 obtain ⟨xb,xo,xc,bv,rfl,hx1,hx2,hf,hrest⟩:=box_first (hb.widen HK.out.1)
 have HF:=Lib.hid hf
 have HB:=Lib.hid hrest
 unfold maxLen at hx2
 have HWO:=Lib.hid hwo
 clear h1 h2 h3 h4 hs hb hp hf hrest hwo
 obtain ⟨⟨rc,rt,⟨rk,ra,ro,rn⟩⟩,re,hrr⟩ : ∃ x y,readRq b = (x,y):=⟨_,_,rfl⟩
 have HRR:=Lib.hid hrr
 clear hrr
 obtain ⟨⟨lc2,lt,⟨le,ln⟩⟩,LB,hL⟩ : ∃ x y,lastAn sa rc = (x,y):=⟨_,_,rfl⟩
 have HL:=Lib.hid hL
 clear hL
 go_enter Tryz.func33,Tryz.ntmps33
 go_wp2_with ((with_reducible refine zst (L:=[44,41,31,100]) ?_ ?_); exact rfl)
 unfold Hid
 refine wpList_boxB rfl 31 (.tmp 0) rfl #[.slice ca sc.length cc,.slice ua su.length uc,.slice aa sa.length ac,.slice pa sp.length pc] rfl (fun b0 w1_ M1=>?_)
 have B_b0:=zmb M1
 replace R0:=zme M1 R0
 replace HF:=zme M1 HF
 replace HB:=zme M1 HB
 replace EW:=zet EW M1
 go_wp2_with ((with_reducible refine zst (L:=[44,41,31,100]) ?_ ?_); exact rfl)
 unfold Hid
 refine wpList_boxB rfl 41 (.tmp 1) rfl #[I gen,.slice (some ⟨xb,xo,none⟩) (l.length + 1) xc,.bool false,I nc,I nt,I nk,I na,I no,I nn,.slice la pl.length lc,I se,I sn] rfl (fun b1 w2_ M2=>?_)
 have D_b0_b1:=zld B_b0 M2
 replace B_b0:=zmo M2 B_b0
 have B_b1:=zmb M2
 replace R0:=zme M2 R0
 replace HF:=zme M2 HF
 replace HB:=zme M2 HB
 replace EW:=zet EW M2
 go_wp2_with ((with_reducible refine zst (L:=[44,41,31,100]) ?_ ?_); exact rfl)
 unfold Hid
 refine wpList_allocB rfl 41 #[I 0,.slice none 0 0,.bool false,I 0,I 0,I 0,I 0,I 0,I 0,.slice none 0 0,I 0,I 0] (by kernel_rfl) (fun b2 w3_ M3=>?_)
 have D_b0_b2:=zld B_b0 M3
 have D_b1_b2:=zld B_b1 M3
 replace B_b0:=zmo M3 B_b0
 replace B_b1:=zmo M3 B_b1
 have B_b2:=zmb M3
 replace R0:=zme M3 R0
 replace HF:=zme M3 HF
 replace HB:=zme M3 HB
 replace EW:=zet EW M3
 have A_b0 : Hid (b0 = w.heap.size + 0):=by unfold Hid; have q0:=M1.out.at_; have r0:=M1.out.size; omega
 have N_b0:=znb HK A_b0 (by decide)
 have O_b0:=zob A_b0
 have A_b1 : Hid (b1 = w.heap.size + 1):=by unfold Hid; have q0:=M1.out.at_; have r0:=M1.out.size; have q1:=M2.out.at_; have r1:=M2.out.size; omega
 have N_b1:=znb HK A_b1 (by decide)
 have O_b1:=zob A_b1
 have A_b2 : Hid (b2 = w.heap.size + 2):=by unfold Hid; have q0:=M1.out.at_; have r0:=M1.out.size; have q1:=M2.out.at_; have r1:=M2.out.size; have q2:=M3.out.at_; have r2:=M3.out.size; omega
 have N_b2:=znb HK A_b2 (by decide)
 have O_b2:=zob A_b2
 have c1:=cell_of (i:=1) B_b1.out rfl
 have cx:=HF.out.out.1
 go_wp2_with (first | ((with_reducible refine zst (L:=[44,41,31,100]) ?_ ?_); exact rfl) | ((with_reducible refine zsc ?_ ?_); exact rfl))
 unfold Hid
 clear c1 cx
 refine wpList_cut rfl l.length (fun na nc=>Rd B (fun w=>RowOf 1 elBs w (.slice na l.length nc) l) w3_) ?_ (fun na' nc' hn=>?_)
 ·by_cases hcap : xc = 1
  ·have hl0 : l = []:=List.eq_nil_of_length_eq_zero (by omega)
   refine ⟨some ⟨xb,xo,none⟩,0,by rw [hl0]; exact Rd.all fun w=>rowOf_empty w xb xo 0 (by decide),?_⟩
   rw [hl0]
   subst hcap
   go_simp
  ·exact ⟨some ⟨xb,xo + 1,none⟩,xc - 1,HB.out,by go_simp; intro h; omega⟩
 replace HB:=Lib.hid hn
 clear hn hx1 hx2
 go_wp2_with ((with_reducible refine zst (L:=[44,41,31,100]) ?_ ?_); exact rfl)
 unfold Hid
 refine wpList_storeP rfl 32 (.tmp 18) (.tmp 17) rfl b1 1 rfl [.slice na' l.length nc'] (rfl) B_b1 rfl (by kernel_rfl) rfl [I gen,.slice na' l.length nc',.bool false,I nc,I nt,I nk,I na,I no,I nn,.slice la pl.length lc,I se,I sn] rfl (fun w4_ M4=>?_)
 replace B_b0:=zwl M4 B_b0 D_b0_b1
 replace B_b1:=zwb M4
 replace B_b2:=zwg M4 B_b2 D_b1_b2
 replace R0:=zwr M4 R0 N_b1
 replace HF:=zwr M4 HF N_b1
 replace HB:=zwr M4 HB N_b1
 replace EW:=zwe M4 EW O_b1
 go_wp2_with fail
 have hl:=ReadRequest_any bv b w4_ HF.out.out.2
 rw [HRR.out] at hl
 refine Calls.exts hl (fun wa ea=>?_)
 clear hl HF
 replace B_b0:=zbx B_b0 ea
 replace B_b1:=zbx B_b1 ea
 replace B_b2:=zbx B_b2 ea
 replace R0:=zrx R0 ea
 replace HB:=zrx HB ea
 replace EW:=Lib.hid (EW.out.trans ea)
 clear ea
 go_wp2_with ((with_reducible refine zst (L:=[44,41,31,100]) ?_ ?_); exact rfl)
 unfold Hid
 refine wpList_allocB rfl 36 #[I 0,I 0,I 0,I 0,I 0,I 0] (by kernel_rfl) (fun b4 w5_ M5=>?_)
 have D_b0_b4:=zld B_b0 M5
 have D_b1_b4:=zld B_b1 M5
 have D_b2_b4:=zld B_b2 M5
 obtain ⟨B1,HB1⟩ : ∃ X : Nat → Prop,Hid (∀ k,X k ↔ (B k ∧ k ≠ b4)):=⟨_,fun _=>Iff.rfl⟩
 replace R0:=zmd HB1 M5 R0
 replace HB:=zmd HB1 M5 HB
 replace N_b0:=znw HB1 N_b0
 replace N_b1:=znw HB1 N_b1
 replace N_b2:=znw HB1 N_b2
 have N_b4 : Hid (¬ B1 b4):=fun h=>((HB1.out _).1 h).2 rfl
 have I_B1 : Hid (∀ k,B1 k → B k):=fun k h=>((HB1.out k).1 h).1
 have O_b4 : Hid (w.heap.size ≤ b4):=by unfold Hid; have q2:=M5.out.at_; have q3:=EW.out.size; omega
 replace B_b0:=zmo M5 B_b0
 replace B_b1:=zmo M5 B_b1
 replace B_b2:=zmo M5 B_b2
 have B_b4:=zmb M5
 replace R0:=zme M5 R0
 replace HB:=zme M5 HB
 replace EW:=zet EW M5
 go_wp2_with ((with_reducible refine zst (L:=[44,41,31,100]) ?_ ?_); exact rfl)
 unfold Hid
 refine wpList_storeW rfl 36 (.tmp 7) (.tmp 22) rfl b4 rfl [I rc,I rt,I rk,I ra,I ro,I rn] (rfl) B_b4 rfl (by kernel_rfl) rfl (fun w6_ M6=>?_)
 replace B_b0:=zwl M6 B_b0 D_b0_b4
 replace B_b1:=zwl M6 B_b1 D_b1_b4
 replace B_b2:=zwl M6 B_b2 D_b2_b4
 replace B_b4:=zwb M6
 replace R0:=zwr M6 R0 N_b4
 replace HB:=zwr M6 HB N_b4
 replace EW:=zwe M6 EW O_b4
 by_cases hre : re = 0
 case neg =>
  have hbe : (re != 0) = true:=by simpa using hre
  go_wp2_with ((with_reducible refine zst (L:=[44,41,31,100]) ?_ ?_); exact rfl)
  unfold Hid
  refine wpList_loadW rfl 41 (.tmp 3) rfl b1 rfl B_b1 Tryz.underlying41 (by kernel_rfl) (fun v26 H_v26=>?_)
  go_wp2_with ((with_reducible refine zst (L:=[44,41,31,100]) ?_ ?_); exact rfl)
  unfold Hid
  refine wpList_storeW rfl 41 (.tmp 4) (.tmp 26) rfl b2 rfl _ (zcv H_v26) B_b2 rfl (by kernel_rfl) rfl (fun w7_ M7=>?_)
  replace B_b0:=zwl M7 B_b0 D_b0_b2
  replace B_b1:=zwl M7 B_b1 D_b1_b2
  replace B_b2:=zwb M7
  replace B_b4:=zwg M7 B_b4 D_b2_b4
  replace R0:=zwr M7 R0 N_b2
  replace HB:=zwr M7 HB N_b2
  replace EW:=zwe M7 EW O_b2
  go_wp2
  have z0:=run_box (P:=Tryz.prog) 41 B_b2.out Tryz.underlying41 (by kernel_rfl)
  refine bodyPost_ret (by simp [results,Tryz.results33,asAddr,z0]; rfl) rfl ?_
  have hX : serveM ⟨sc,su,sa,sp⟩ ⟨gen,(b :: l),false,⟨nc,nt,⟨nk,na,no,nn⟩⟩,pl,⟨se,sn⟩⟩ = (⟨sc,su,sa,sp⟩,⟨gen,l,false,⟨nc,nt,⟨nk,na,no,nn⟩⟩,pl,⟨se,sn⟩⟩,[],0):=by
   show (if (readRq b).2 ≠ 0 then _ else if (lastAn sa (readRq b).1.client).2 = true ∧ (readRq b).1.token ≤ (lastAn sa (readRq b).1.client).1.token then (if (lastAn sa (readRq b).1.client).1.token = (readRq b).1.token then _ else _) else _) = _
   rw [HRR.out]
   simp only []
   rw [HL.out]
   rw [if_pos hre]
  have ht:=HT.out
  rw [hX] at ht
  exact ⟨_,rfl,EW.out,ht _ _ _ (Rd.widen (A:=B1) (tupB_rd (sv_rd (v:=⟨gen,l,false,⟨nc,nt,⟨nk,na,no,nn⟩⟩,pl,⟨se,sn⟩⟩) HB.out R0.out.right) (Rd.all fun w=>bytes_nil w)) (fun k _ h=>HK.out.2.2.2 k (I_B1.out k h)))⟩
 subst hre
 go_wp2_with ((with_reducible refine zst (L:=[44,41,31,100]) ?_ ?_); exact rfl)
 unfold Hid
 refine wpList_loadW rfl 31 (.tmp 2) rfl b0 rfl B_b0 Tryz.underlying31 (by kernel_rfl) (fun v28 H_v28=>?_)
 have d0:=cell_of (i:=0) B_b4.out rfl
 go_wp2_with fail
 clear d0
 rw [H_v28.out]
 have hl:=Last_any _ _ _ _ ⟨sc,su,sa,sp⟩ rc w6_ R0.out.left.out
 rw [HL.out] at hl
 refine Calls.exts hl (fun wl el=>?_)
 clear hl H_v28
 replace B_b0:=zbx B_b0 el
 replace B_b1:=zbx B_b1 el
 replace B_b2:=zbx B_b2 el
 replace B_b4:=zbx B_b4 el
 replace R0:=zrx R0 el
 replace HB:=zrx HB el
 replace EW:=Lib.hid (EW.out.trans el)
 clear el
 go_wp2_with ((with_reducible refine zst (L:=[44,41,31,100]) ?_ ?_); exact rfl)
 unfold Hid
 refine wpList_allocB rfl 59 #[I 0,I 0,I 0,I 0] (by kernel_rfl) (fun b5 w7_ M7=>?_)
 have D_b0_b5:=zld B_b0 M7
 have D_b1_b5:=zld B_b1 M7
 have D_b2_b5:=zld B_b2 M7
 have D_b4_b5:=zld B_b4 M7
 obtain ⟨B11,HB11⟩ : ∃ X : Nat → Prop,Hid (∀ k,X k ↔ (B1 k ∧ k ≠ b5)):=⟨_,fun _=>Iff.rfl⟩
 replace R0:=zmd HB11 M7 R0
 replace HB:=zmd HB11 M7 HB
 replace N_b0:=znw HB11 N_b0
 replace N_b1:=znw HB11 N_b1
 replace N_b2:=znw HB11 N_b2
 replace N_b4:=znw HB11 N_b4
 have N_b5 : Hid (¬ B11 b5):=fun h=>((HB11.out _).1 h).2 rfl
 have I_B11 : Hid (∀ k,B11 k → B1 k):=fun k h=>((HB11.out k).1 h).1
 have O_b5 : Hid (w.heap.size ≤ b5):=by unfold Hid; have q2:=M7.out.at_; have q3:=EW.out.size; omega
 replace B_b0:=zmo M7 B_b0
 replace B_b1:=zmo M7 B_b1
 replace B_b2:=zmo M7 B_b2
 replace B_b4:=zmo M7 B_b4
 have B_b5:=zmb M7
 replace R0:=zme M7 R0
 replace HB:=zme M7 HB
 replace EW:=zet EW M7
 go_wp2_with ((with_reducible refine zst (L:=[44,41,31,100]) ?_ ?_); exact rfl)
 unfold Hid
 refine wpList_storeW rfl 59 (.tmp 9) (.tmp 32) rfl b5 rfl [I lc2,I lt,I le,I ln] (rfl) B_b5 rfl (by kernel_rfl) rfl (fun w8_ M8=>?_)
 replace B_b0:=zwl M8 B_b0 D_b0_b5
 replace B_b1:=zwl M8 B_b1 D_b1_b5
 replace B_b2:=zwl M8 B_b2 D_b2_b5
 replace B_b4:=zwl M8 B_b4 D_b4_b5
 replace B_b5:=zwb M8
 replace R0:=zwr M8 R0 N_b5
 replace HB:=zwr M8 HB N_b5
 replace EW:=zwe M8 EW O_b5
 have d1:=cell_of (i:=1) B_b4.out rfl
 have l1:=cell_of (i:=1) B_b5.out rfl
 by_cases hq1 : LB = true ∧ lt = rt
 case pos =>
  obtain ⟨rfl,rfl⟩:=hq1
  go_wp2_with fail
  clear d1 l1
  refine held_drew (S:=fun w'=>w'.heap[b1]? = some (.cells #[I gen,.slice na' l.length nc',.bool false,I nc,I nt,I nk,I na,I no,I nn,.slice la pl.length lc,I se,I sn] 41 (0,0)) ∧ w'.heap[b5]? = some (.cells #[I lc2,I lt,I le,I ln] 59 (0,0))) (by kernel_rfl) (fun wd ed _=>?_)
  replace B_b0:=zbx B_b0 ed
  replace B_b1:=zbx B_b1 ed
  replace B_b2:=zbx B_b2 ed
  replace B_b4:=zbx B_b4 ed
  replace B_b5:=zbx B_b5 ed
  replace R0:=zrx R0 ed
  replace HB:=zrx HB ed
  replace EW:=Lib.hid (EW.out.trans ed)
  have HSS : Hid (wd.heap[b1]? = some (.cells #[I gen,.slice na' l.length nc',.bool false,I nc,I nt,I nk,I na,I no,I nn,.slice la pl.length lc,I se,I sn] 41 (0,0)) ∧ wd.heap[b5]? = some (.cells #[I lc2,I lt,I le,I ln] 59 (0,0))):=⟨B_b1.out,B_b5.out⟩
  refine held_loadW 0 rfl (by kernel_rfl) (by kernel_rfl) (by kernel_rfl) (fun _ _ _ _ h=>h) rfl 41 (.tmp 3) rfl b1 rfl (fun w' hS=>hS.1) Tryz.underlying41 (by kernel_rfl) HSS ?_
  refine held_norm (fun K hK=>?_); go_simp; refine hK _ ?_; clear hK K
  refine held_loadW 1 rfl (by kernel_rfl) (by kernel_rfl) (by kernel_rfl) (fun _ _ _ _ h=>h) rfl 59 (.tmp 9) rfl b5 rfl (fun w' hS=>hS.2) Tryz.underlying59 (by kernel_rfl) HSS ?_
  refine held_norm (fun K hK=>?_); go_simp; refine hK _ ?_; clear hK K
  refine held_call 2 (by kernel_rfl) rfl rfl 58 #[.agg #[I lc2,I lt,I le,I ln]] (by go_simp) ?_
  refine (Answer_any lc2 lt le ln wd).mono ?_
  rintro e w9 ⟨v45,rfl,ho,e9⟩
  have hby:=ownB_rd (l:=ansB ⟨lc2,lt,⟨le,ln⟩⟩) rfl ho
  clear ho
  have hsz : w.heap.size + 3 ≤ wd.heap.size:=by have q:=(Array.getElem?_eq_some_iff.1 B_b2.out).1; have q2:=A_b2.out; omega
  have hz4 : b4 < wd.heap.size:=(Array.getElem?_eq_some_iff.1 B_b4.out).1
  have hz5 : b5 < wd.heap.size:=(Array.getElem?_eq_some_iff.1 B_b5.out).1
  have HBY:=Lib.hid (hby.widen (B:=B11) (fun k _ h=>(HB11.out k).2 ⟨(HB1.out k).2 ⟨HK.out.2.1 k (by omega),by omega⟩,by omega⟩))
  clear hby hsz hz4 hz5
  replace B_b0:=zbx B_b0 e9
  replace B_b1:=zbx B_b1 e9
  replace B_b2:=zbx B_b2 e9
  replace B_b4:=zbx B_b4 e9
  replace B_b5:=zbx B_b5 e9
  replace R0:=zrx R0 e9
  replace HB:=zrx HB e9
  replace EW:=Lib.hid (EW.out.trans e9)
  clear HSS
  refine ⟨_,rfl,⟨B_b1.out,B_b5.out⟩,?_⟩
  have HSS : Hid (w9.heap[b1]? = some (.cells #[I gen,.slice na' l.length nc',.bool false,I nc,I nt,I nk,I na,I no,I nn,.slice la pl.length lc,I se,I sn] 41 (0,0)) ∧ w9.heap[b5]? = some (.cells #[I lc2,I lt,I le,I ln] 59 (0,0))):=⟨B_b1.out,B_b5.out⟩
  refine held_norm (fun K hK=>?_); go_simp; refine hK _ ?_; clear hK K
  refine held_storeW 3 (by kernel_rfl) rfl rfl 41 (.tmp 4) (.tmp 43) rfl b2 rfl [I gen,.slice na' l.length nc',.bool false,I nc,I nt,I nk,I na,I no,I nn,.slice la pl.length lc,I se,I sn] (rfl) B_b2 rfl (by kernel_rfl) rfl (fun w9_ M9=>⟨?_,?_⟩)
  ·exact ⟨M9.out.old B_b1.out (Nat.ne_of_lt D_b1_b2.out),M9.out.old B_b5.out (Nat.ne_of_gt D_b2_b5.out)⟩
  replace B_b0:=zwl M9 B_b0 D_b0_b2
  replace B_b1:=zwl M9 B_b1 D_b1_b2
  replace B_b2:=zwb M9
  replace B_b4:=zwg M9 B_b4 D_b2_b4
  replace B_b5:=zwg M9 B_b5 D_b2_b5
  replace R0:=zwr M9 R0 N_b2
  replace HB:=zwr M9 HB N_b2
  replace HBY:=zwr M9 HBY N_b2
  replace EW:=zwe M9 EW O_b2
  clear HSS
  have HSS : Hid (w9_.heap[b1]? = some (.cells #[I gen,.slice na' l.length nc',.bool false,I nc,I nt,I nk,I na,I no,I nn,.slice la pl.length lc,I se,I sn] 41 (0,0)) ∧ w9_.heap[b5]? = some (.cells #[I lc2,I lt,I le,I ln] 59 (0,0))):=⟨B_b1.out,B_b5.out⟩
  refine held_norm (fun K hK=>?_); go_simp; refine hK _ ?_; clear hK K
  refine held_value 4 (by kernel_rfl) rfl rfl _ rfl HSS.out ?_
  refine held_norm (fun K hK=>?_); go_simp; refine hK _ ?_; clear hK K
  refine wpAnyH_done (by kernel_rfl) ?_ _
  clear HSS
  go_wp2
  have z0:=run_box (P:=Tryz.prog) 41 B_b2.out Tryz.underlying41 (by kernel_rfl)
  refine bodyPost_ret (by simp [results,Tryz.results33,asAddr,z0]; rfl) rfl ?_
  have hX : serveM ⟨sc,su,sa,sp⟩ ⟨gen,(b :: l),false,⟨nc,nt,⟨nk,na,no,nn⟩⟩,pl,⟨se,sn⟩⟩ = (⟨sc,su,sa,sp⟩,⟨gen,l,false,⟨nc,nt,⟨nk,na,no,nn⟩⟩,pl,⟨se,sn⟩⟩,ansB ⟨lc2,lt,⟨le,ln⟩⟩,0):=by
   show (if (readRq b).2 ≠ 0 then _ else if (lastAn sa (readRq b).1.client).2 = true ∧ (readRq b).1.token ≤ (lastAn sa (readRq b).1.client).1.token then (if (lastAn sa (readRq b).1.client).1.token = (readRq b).1.token then _ else _) else _) = _
   rw [HRR.out]
   simp only []
   rw [HL.out]
   rw [if_neg (by simp),if_pos ⟨rfl,Int.le_refl _⟩,if_pos rfl]
  have ht:=HT.out
  rw [hX] at ht
  exact ⟨_,rfl,EW.out,ht _ _ _ (Rd.widen (A:=B11) (tupB_rd (sv_rd (v:=⟨gen,l,false,⟨nc,nt,⟨nk,na,no,nn⟩⟩,pl,⟨se,sn⟩⟩) HB.out R0.out.right) (HBY.out)) (fun k _ h=>HK.out.2.2.2 k (I_B1.out k (I_B11.out k h))))⟩
 by_cases hq2 : LB = true ∧ rt < lt
 case pos =>
  obtain ⟨rfl,hlt⟩:=hq2
  have hb2 : (lt == rt) = false:=by simp; omega
  go_wp2_with ((with_reducible refine zst (L:=[44,41,31,100]) ?_ ?_); exact rfl)
  unfold Hid
  clear d1 l1
  refine wpList_loadW rfl 41 (.tmp 3) rfl b1 rfl B_b1 Tryz.underlying41 (by kernel_rfl) (fun v55 H_v55=>?_)
  go_wp2_with ((with_reducible refine zst (L:=[44,41,31,100]) ?_ ?_); exact rfl)
  unfold Hid
  refine wpList_storeW rfl 41 (.tmp 4) (.tmp 55) rfl b2 rfl _ (zcv H_v55) B_b2 rfl (by kernel_rfl) rfl (fun w9_ M9=>?_)
  replace B_b0:=zwl M9 B_b0 D_b0_b2
  replace B_b1:=zwl M9 B_b1 D_b1_b2
  replace B_b2:=zwb M9
  replace B_b4:=zwg M9 B_b4 D_b2_b4
  replace B_b5:=zwg M9 B_b5 D_b2_b5
  replace R0:=zwr M9 R0 N_b2
  replace HB:=zwr M9 HB N_b2
  replace EW:=zwe M9 EW O_b2
  go_wp2
  have z0:=run_box (P:=Tryz.prog) 41 B_b2.out Tryz.underlying41 (by kernel_rfl)
  refine bodyPost_ret (by simp [results,Tryz.results33,asAddr,z0]; rfl) rfl ?_
  have hX : serveM ⟨sc,su,sa,sp⟩ ⟨gen,(b :: l),false,⟨nc,nt,⟨nk,na,no,nn⟩⟩,pl,⟨se,sn⟩⟩ = (⟨sc,su,sa,sp⟩,⟨gen,l,false,⟨nc,nt,⟨nk,na,no,nn⟩⟩,pl,⟨se,sn⟩⟩,[],0):=by
   show (if (readRq b).2 ≠ 0 then _ else if (lastAn sa (readRq b).1.client).2 = true ∧ (readRq b).1.token ≤ (lastAn sa (readRq b).1.client).1.token then (if (lastAn sa (readRq b).1.client).1.token = (readRq b).1.token then _ else _) else _) = _
   rw [HRR.out]
   simp only []
   rw [HL.out]
   rw [if_neg (by simp),if_pos ⟨rfl,by simp only []; omega⟩,if_neg (by simp only []; omega)]
  have ht:=HT.out
  rw [hX] at ht
  exact ⟨_,rfl,EW.out,ht _ _ _ (Rd.widen (A:=B11) (tupB_rd (sv_rd (v:=⟨gen,l,false,⟨nc,nt,⟨nk,na,no,nn⟩⟩,pl,⟨se,sn⟩⟩) HB.out R0.out.right) (Rd.all fun w=>bytes_nil w)) (fun k _ h=>HK.out.2.2.2 k (I_B1.out k (I_B11.out k h))))⟩
 have hcr : wrongCl ⟨rk,ra,ro,rn⟩ = 0:=by
  have q:=read_right (b:=b) (by rw [HRR.out])
  rw [HRR.out] at q
  exact (wrongRq_parts q).2
 have HCR:=Lib.hid hcr
 clear hcr
 have hsel : LB = false ∨ (LB = true ∧ lt < rt):=by
  cases LB
  ·exact .inl rfl
  ·exact .inr ⟨rfl,by have q1 : ¬ lt = rt:=fun h=>hq1 ⟨rfl,h⟩; have q2 : ¬ rt < lt:=fun h=>hq2 ⟨rfl,h⟩; omega⟩
 clear hq1 hq2
 obtain ⟨de,dn,hD⟩ : ∃ x y,(doCl (namesOf sc) ⟨rk,ra,ro,rn⟩).2 = ⟨x,y⟩:=⟨_,_,rfl⟩
 obtain ⟨PL,hPL⟩ : ∃ x,planCl (namesOf sc) ⟨rk,ra,ro,rn⟩ = x:=⟨_,rfl⟩
 have HD:=Lib.hid hD
 have HPL:=Lib.hid hPL
 clear hD hPL
 rcases hsel with rfl | ⟨rfl,hns⟩
 ·go_wp2_with fail
  clear d1 l1
  refine held_drew (S:=fun w'=>w'.heap[b4]? = some (.cells #[I rc,I rt,I rk,I ra,I ro,I rn] 36 (0,0))) (by kernel_rfl) (fun wd ed _=>?_)
  replace B_b0:=zbx B_b0 ed
  replace B_b1:=zbx B_b1 ed
  replace B_b2:=zbx B_b2 ed
  replace B_b4:=zbx B_b4 ed
  replace B_b5:=zbx B_b5 ed
  replace R0:=zrx R0 ed
  replace HB:=zrx HB ed
  replace EW:=Lib.hid (EW.out.trans ed)
  have HSS : Hid (wd.heap[b4]? = some (.cells #[I rc,I rt,I rk,I ra,I ro,I rn] 36 (0,0))):=B_b4.out
  refine held_loadW 0 rfl (by kernel_rfl) (by kernel_rfl) (by kernel_rfl) (fun _ _ _ _ h=>h) rfl 36 (.tmp 7) rfl b4 rfl (fun w' hS=>hS) Tryz.underlying36 (by kernel_rfl) HSS ?_
  refine held_norm (fun K hK=>?_); go_simp; refine hK _ ?_; clear hK K
  refine held_pure 1 rfl (by kernel_rfl) (by kernel_rfl) (by kernel_rfl) (fun _ _ _ _ h=>h) rfl HSS.out (fun K hK=>?_); go_simp; refine hK _ ?_; clear hK K
  refine held_store 2 (by kernel_rfl) rfl rfl 4 (.tmp 57) (.const (.bool true)) rfl b1 2 rfl [.bool true] (rfl) B_b1.out (Nat.le_of_ble_eq_true rfl) (by kernel_rfl) (ones_of rfl) #[I gen,.slice na' l.length nc',.bool true,I nc,I nt,I nk,I na,I no,I nn,.slice la pl.length lc,I se,I sn] ((splN_eq _ _ _ (Nat.le_of_ble_eq_true rfl)).trans rfl) (fun w9_ M9=>⟨?_,?_⟩)
  ·exact M9.out.old B_b4.out (Nat.ne_of_gt D_b1_b4.out)
  replace B_b0:=zwl M9 B_b0 D_b0_b1
  replace B_b1:=zwb M9
  replace B_b2:=zwg M9 B_b2 D_b1_b2
  replace B_b4:=zwg M9 B_b4 D_b1_b4
  replace B_b5:=zwg M9 B_b5 D_b1_b5
  replace R0:=zwr M9 R0 N_b1
  replace HB:=zwr M9 HB N_b1
  replace EW:=zwe M9 EW O_b1
  clear HSS
  have HSS : Hid (w9_.heap[b4]? = some (.cells #[I rc,I rt,I rk,I ra,I ro,I rn] 36 (0,0))):=B_b4.out
  refine held_norm (fun K hK=>?_); go_simp; refine hK _ ?_; clear hK K
  refine held_pure 3 rfl (by kernel_rfl) (by kernel_rfl) (by kernel_rfl) (fun _ _ _ _ h=>h) rfl HSS.out (fun K hK=>?_); go_simp; refine hK _ ?_; clear hK K
  refine held_store 4 (by kernel_rfl) rfl rfl 36 (.tmp 58) (.tmp 56) rfl b1 3 rfl [I rc,I rt,I rk,I ra,I ro,I rn] (rfl) B_b1.out (Nat.le_of_ble_eq_true rfl) (by kernel_rfl) (ones_of rfl) #[I gen,.slice na' l.length nc',.bool true,I rc,I rt,I rk,I ra,I ro,I rn,.slice la pl.length lc,I se,I sn] ((splN_eq _ _ _ (Nat.le_of_ble_eq_true rfl)).trans rfl) (fun w10_ M10=>⟨?_,?_⟩)
  ·exact M10.out.old B_b4.out (Nat.ne_of_gt D_b1_b4.out)
  replace B_b0:=zwl M10 B_b0 D_b0_b1
  replace B_b1:=zwb M10
  replace B_b2:=zwg M10 B_b2 D_b1_b2
  replace B_b4:=zwg M10 B_b4 D_b1_b4
  replace B_b5:=zwg M10 B_b5 D_b1_b5
  replace R0:=zwr M10 R0 N_b1
  replace HB:=zwr M10 HB N_b1
  replace EW:=zwe M10 EW O_b1
  clear HSS
  have HSS : Hid (w10_.heap[b4]? = some (.cells #[I rc,I rt,I rk,I ra,I ro,I rn] 36 (0,0))):=B_b4.out
  refine held_norm (fun K hK=>?_); go_simp; refine hK _ ?_; clear hK K
  refine wpAnyH_done (by kernel_rfl) ?_ _
  clear HSS
  have s0:=cell_of (i:=0) B_b0.out rfl
  have d2:=cell_of (i:=2) B_b4.out rfl
  have d3:=cell_of (i:=3) B_b4.out rfl
  have d4:=cell_of (i:=4) B_b4.out rfl
  have d5:=cell_of (i:=5) B_b4.out rfl
  go_wp2_with fail
  clear s0 d2 d3 d4 d5
  refine (MakeW_any _ sc rk ra ro rn w10_ (st_iff.1 R0.out.left.out).1 HWO.out HCR.out).mono ?_
  rintro e w9 ⟨⟨uu,rfl,hu⟩,e9⟩
  replace hu : Has w10_.heap.size w9 uu (planCl (namesOf sc) ⟨rk,ra,ro,rn⟩):=hu
  rw [HPL.out] at hu
  obtain ⟨ua',uc',rfl⟩:=row_slice hu.writes
  rw [show (doCl (ofCells sc (sc.getD 0 0).toNat) ⟨rk,ra,ro,rn⟩).2 = ⟨de,dn⟩ from HD.out]
  have hsz : w.heap.size + 3 ≤ w10_.heap.size:=by have q:=(Array.getElem?_eq_some_iff.1 B_b2.out).1; have q2:=A_b2.out; omega
  have hz4 : b4 < w10_.heap.size:=(Array.getElem?_eq_some_iff.1 B_b4.out).1
  have hz5 : b5 < w10_.heap.size:=(Array.getElem?_eq_some_iff.1 B_b5.out).1
  have HPN:=Lib.hid (hu.rd.widen (B:=B11) (fun k _ h=>(HB11.out k).2 ⟨(HB1.out k).2 ⟨HK.out.2.1 k (by omega),by omega⟩,by omega⟩))
  clear hu hsz hz4 hz5
  replace B_b0:=zbx B_b0 e9
  replace B_b1:=zbx B_b1 e9
  replace B_b2:=zbx B_b2 e9
  replace B_b4:=zbx B_b4 e9
  replace B_b5:=zbx B_b5 e9
  replace R0:=zrx R0 e9
  replace HB:=zrx HB e9
  replace EW:=Lib.hid (EW.out.trans e9)
  go_wp2_with ((with_reducible refine zst (L:=[44,41,31,100]) ?_ ?_); exact rfl)
  unfold Hid
  refine wpList_storeP rfl 27 (.tmp 67) (.tmp 65) rfl b1 9 rfl [.slice ua' PL.length uc'] (rfl) B_b1 rfl (by kernel_rfl) rfl [I gen,.slice na' l.length nc',.bool true,I rc,I rt,I rk,I ra,I ro,I rn,.slice ua' PL.length uc',I se,I sn] rfl (fun w11_ M11=>?_)
  replace B_b0:=zwl M11 B_b0 D_b0_b1
  replace B_b1:=zwb M11
  replace B_b2:=zwg M11 B_b2 D_b1_b2
  replace B_b4:=zwg M11 B_b4 D_b1_b4
  replace B_b5:=zwg M11 B_b5 D_b1_b5
  replace R0:=zwr M11 R0 N_b1
  replace HB:=zwr M11 HB N_b1
  replace HPN:=zwr M11 HPN N_b1
  replace EW:=zwe M11 EW O_b1
  go_wp2_with ((with_reducible refine zst (L:=[44,41,31,100]) ?_ ?_); exact rfl)
  unfold Hid
  refine wpList_storeP rfl 39 (.tmp 68) (.tmp 66) rfl b1 10 rfl [I de,I dn] (rfl) B_b1 rfl (by kernel_rfl) rfl [I gen,.slice na' l.length nc',.bool true,I rc,I rt,I rk,I ra,I ro,I rn,.slice ua' PL.length uc',I de,I dn] rfl (fun w12_ M12=>?_)
  replace B_b0:=zwl M12 B_b0 D_b0_b1
  replace B_b1:=zwb M12
  replace B_b2:=zwg M12 B_b2 D_b1_b2
  replace B_b4:=zwg M12 B_b4 D_b1_b4
  replace B_b5:=zwg M12 B_b5 D_b1_b5
  replace R0:=zwr M12 R0 N_b1
  replace HB:=zwr M12 HB N_b1
  replace HPN:=zwr M12 HPN N_b1
  replace EW:=zwe M12 EW O_b1
  go_wp2_with ((with_reducible refine zst (L:=[44,41,31,100]) ?_ ?_); exact rfl)
  unfold Hid
  refine wpList_loadW rfl 41 (.tmp 3) rfl b1 rfl B_b1 Tryz.underlying41 (by kernel_rfl) (fun v69 H_v69=>?_)
  go_wp2_with ((with_reducible refine zst (L:=[44,41,31,100]) ?_ ?_); exact rfl)
  unfold Hid
  refine wpList_storeW rfl 41 (.tmp 4) (.tmp 69) rfl b2 rfl _ (zcv H_v69) B_b2 rfl (by kernel_rfl) rfl (fun w13_ M13=>?_)
  replace B_b0:=zwl M13 B_b0 D_b0_b2
  replace B_b1:=zwl M13 B_b1 D_b1_b2
  replace B_b2:=zwb M13
  replace B_b4:=zwg M13 B_b4 D_b2_b4
  replace B_b5:=zwg M13 B_b5 D_b2_b5
  replace R0:=zwr M13 R0 N_b2
  replace HB:=zwr M13 HB N_b2
  replace HPN:=zwr M13 HPN N_b2
  replace EW:=zwe M13 EW O_b2
  go_wp2
  have z0:=run_box (P:=Tryz.prog) 41 B_b2.out Tryz.underlying41 (by kernel_rfl)
  refine bodyPost_ret (by simp [results,Tryz.results33,asAddr,z0]; rfl) rfl ?_
  have hX : serveM ⟨sc,su,sa,sp⟩ ⟨gen,(b :: l),false,⟨nc,nt,⟨nk,na,no,nn⟩⟩,pl,⟨se,sn⟩⟩ = (⟨sc,su,sa,sp⟩,⟨gen,l,true,⟨rc,rt,⟨rk,ra,ro,rn⟩⟩,PL,⟨de,dn⟩⟩,[],0):=by
   show (if (readRq b).2 ≠ 0 then _ else if (lastAn sa (readRq b).1.client).2 = true ∧ (readRq b).1.token ≤ (lastAn sa (readRq b).1.client).1.token then (if (lastAn sa (readRq b).1.client).1.token = (readRq b).1.token then _ else _) else _) = _
   rw [HRR.out]
   simp only []
   rw [HL.out]
   rw [if_neg (by simp),if_neg (fun h=>by cases h.1),HPL.out,HD.out]
  have ht:=HT.out
  rw [hX] at ht
  exact ⟨_,rfl,EW.out,ht _ _ _ (Rd.widen (A:=B11) (tupB_rd (sv_rd (v:=⟨gen,l,true,⟨rc,rt,⟨rk,ra,ro,rn⟩⟩,PL,⟨de,dn⟩⟩) HB.out HPN.out) (Rd.all fun w=>bytes_nil w)) (fun k _ h=>HK.out.2.2.2 k (I_B1.out k (I_B11.out k h))))⟩
 ·have hb2 : (lt == rt) = false:=by simp; omega
  go_wp2_with fail
  clear d1 l1
  refine held_drew (S:=fun w'=>w'.heap[b4]? = some (.cells #[I rc,I rt,I rk,I ra,I ro,I rn] 36 (0,0))) (by kernel_rfl) (fun wd ed _=>?_)
  replace B_b0:=zbx B_b0 ed
  replace B_b1:=zbx B_b1 ed
  replace B_b2:=zbx B_b2 ed
  replace B_b4:=zbx B_b4 ed
  replace B_b5:=zbx B_b5 ed
  replace R0:=zrx R0 ed
  replace HB:=zrx HB ed
  replace EW:=Lib.hid (EW.out.trans ed)
  have HSS : Hid (wd.heap[b4]? = some (.cells #[I rc,I rt,I rk,I ra,I ro,I rn] 36 (0,0))):=B_b4.out
  refine held_loadW 0 rfl (by kernel_rfl) (by kernel_rfl) (by kernel_rfl) (fun _ _ _ _ h=>h) rfl 36 (.tmp 7) rfl b4 rfl (fun w' hS=>hS) Tryz.underlying36 (by kernel_rfl) HSS ?_
  refine held_norm (fun K hK=>?_); go_simp; refine hK _ ?_; clear hK K
  refine held_pure 1 rfl (by kernel_rfl) (by kernel_rfl) (by kernel_rfl) (fun _ _ _ _ h=>h) rfl HSS.out (fun K hK=>?_); go_simp; refine hK _ ?_; clear hK K
  refine held_store 2 (by kernel_rfl) rfl rfl 4 (.tmp 57) (.const (.bool true)) rfl b1 2 rfl [.bool true] (rfl) B_b1.out (Nat.le_of_ble_eq_true rfl) (by kernel_rfl) (ones_of rfl) #[I gen,.slice na' l.length nc',.bool true,I nc,I nt,I nk,I na,I no,I nn,.slice la pl.length lc,I se,I sn] ((splN_eq _ _ _ (Nat.le_of_ble_eq_true rfl)).trans rfl) (fun w9_ M9=>⟨?_,?_⟩)
  ·exact M9.out.old B_b4.out (Nat.ne_of_gt D_b1_b4.out)
  replace B_b0:=zwl M9 B_b0 D_b0_b1
  replace B_b1:=zwb M9
  replace B_b2:=zwg M9 B_b2 D_b1_b2
  replace B_b4:=zwg M9 B_b4 D_b1_b4
  replace B_b5:=zwg M9 B_b5 D_b1_b5
  replace R0:=zwr M9 R0 N_b1
  replace HB:=zwr M9 HB N_b1
  replace EW:=zwe M9 EW O_b1
  clear HSS
  have HSS : Hid (w9_.heap[b4]? = some (.cells #[I rc,I rt,I rk,I ra,I ro,I rn] 36 (0,0))):=B_b4.out
  refine held_norm (fun K hK=>?_); go_simp; refine hK _ ?_; clear hK K
  refine held_pure 3 rfl (by kernel_rfl) (by kernel_rfl) (by kernel_rfl) (fun _ _ _ _ h=>h) rfl HSS.out (fun K hK=>?_); go_simp; refine hK _ ?_; clear hK K
  refine held_store 4 (by kernel_rfl) rfl rfl 36 (.tmp 58) (.tmp 56) rfl b1 3 rfl [I rc,I rt,I rk,I ra,I ro,I rn] (rfl) B_b1.out (Nat.le_of_ble_eq_true rfl) (by kernel_rfl) (ones_of rfl) #[I gen,.slice na' l.length nc',.bool true,I rc,I rt,I rk,I ra,I ro,I rn,.slice la pl.length lc,I se,I sn] ((splN_eq _ _ _ (Nat.le_of_ble_eq_true rfl)).trans rfl) (fun w10_ M10=>⟨?_,?_⟩)
  ·exact M10.out.old B_b4.out (Nat.ne_of_gt D_b1_b4.out)
  replace B_b0:=zwl M10 B_b0 D_b0_b1
  replace B_b1:=zwb M10
  replace B_b2:=zwg M10 B_b2 D_b1_b2
  replace B_b4:=zwg M10 B_b4 D_b1_b4
  replace B_b5:=zwg M10 B_b5 D_b1_b5
  replace R0:=zwr M10 R0 N_b1
  replace HB:=zwr M10 HB N_b1
  replace EW:=zwe M10 EW O_b1
  clear HSS
  have HSS : Hid (w10_.heap[b4]? = some (.cells #[I rc,I rt,I rk,I ra,I ro,I rn] 36 (0,0))):=B_b4.out
  refine held_norm (fun K hK=>?_); go_simp; refine hK _ ?_; clear hK K
  refine wpAnyH_done (by kernel_rfl) ?_ _
  clear HSS
  have s0:=cell_of (i:=0) B_b0.out rfl
  have d2:=cell_of (i:=2) B_b4.out rfl
  have d3:=cell_of (i:=3) B_b4.out rfl
  have d4:=cell_of (i:=4) B_b4.out rfl
  have d5:=cell_of (i:=5) B_b4.out rfl
  go_wp2_with fail
  clear s0 d2 d3 d4 d5
  refine (MakeW_any _ sc rk ra ro rn w10_ (st_iff.1 R0.out.left.out).1 HWO.out HCR.out).mono ?_
  rintro e w9 ⟨⟨uu,rfl,hu⟩,e9⟩
  replace hu : Has w10_.heap.size w9 uu (planCl (namesOf sc) ⟨rk,ra,ro,rn⟩):=hu
  rw [HPL.out] at hu
  obtain ⟨ua',uc',rfl⟩:=row_slice hu.writes
  rw [show (doCl (ofCells sc (sc.getD 0 0).toNat) ⟨rk,ra,ro,rn⟩).2 = ⟨de,dn⟩ from HD.out]
  have hsz : w.heap.size + 3 ≤ w10_.heap.size:=by have q:=(Array.getElem?_eq_some_iff.1 B_b2.out).1; have q2:=A_b2.out; omega
  have hz4 : b4 < w10_.heap.size:=(Array.getElem?_eq_some_iff.1 B_b4.out).1
  have hz5 : b5 < w10_.heap.size:=(Array.getElem?_eq_some_iff.1 B_b5.out).1
  have HPN:=Lib.hid (hu.rd.widen (B:=B11) (fun k _ h=>(HB11.out k).2 ⟨(HB1.out k).2 ⟨HK.out.2.1 k (by omega),by omega⟩,by omega⟩))
  clear hu hsz hz4 hz5
  replace B_b0:=zbx B_b0 e9
  replace B_b1:=zbx B_b1 e9
  replace B_b2:=zbx B_b2 e9
  replace B_b4:=zbx B_b4 e9
  replace B_b5:=zbx B_b5 e9
  replace R0:=zrx R0 e9
  replace HB:=zrx HB e9
  replace EW:=Lib.hid (EW.out.trans e9)
  go_wp2_with ((with_reducible refine zst (L:=[44,41,31,100]) ?_ ?_); exact rfl)
  unfold Hid
  refine wpList_storeP rfl 27 (.tmp 67) (.tmp 65) rfl b1 9 rfl [.slice ua' PL.length uc'] (rfl) B_b1 rfl (by kernel_rfl) rfl [I gen,.slice na' l.length nc',.bool true,I rc,I rt,I rk,I ra,I ro,I rn,.slice ua' PL.length uc',I se,I sn] rfl (fun w11_ M11=>?_)
  replace B_b0:=zwl M11 B_b0 D_b0_b1
  replace B_b1:=zwb M11
  replace B_b2:=zwg M11 B_b2 D_b1_b2
  replace B_b4:=zwg M11 B_b4 D_b1_b4
  replace B_b5:=zwg M11 B_b5 D_b1_b5
  replace R0:=zwr M11 R0 N_b1
  replace HB:=zwr M11 HB N_b1
  replace HPN:=zwr M11 HPN N_b1
  replace EW:=zwe M11 EW O_b1
  go_wp2_with ((with_reducible refine zst (L:=[44,41,31,100]) ?_ ?_); exact rfl)
  unfold Hid
  refine wpList_storeP rfl 39 (.tmp 68) (.tmp 66) rfl b1 10 rfl [I de,I dn] (rfl) B_b1 rfl (by kernel_rfl) rfl [I gen,.slice na' l.length nc',.bool true,I rc,I rt,I rk,I ra,I ro,I rn,.slice ua' PL.length uc',I de,I dn] rfl (fun w12_ M12=>?_)
  replace B_b0:=zwl M12 B_b0 D_b0_b1
  replace B_b1:=zwb M12
  replace B_b2:=zwg M12 B_b2 D_b1_b2
  replace B_b4:=zwg M12 B_b4 D_b1_b4
  replace B_b5:=zwg M12 B_b5 D_b1_b5
  replace R0:=zwr M12 R0 N_b1
  replace HB:=zwr M12 HB N_b1
  replace HPN:=zwr M12 HPN N_b1
  replace EW:=zwe M12 EW O_b1
  go_wp2_with ((with_reducible refine zst (L:=[44,41,31,100]) ?_ ?_); exact rfl)
  unfold Hid
  refine wpList_loadW rfl 41 (.tmp 3) rfl b1 rfl B_b1 Tryz.underlying41 (by kernel_rfl) (fun v69 H_v69=>?_)
  go_wp2_with ((with_reducible refine zst (L:=[44,41,31,100]) ?_ ?_); exact rfl)
  unfold Hid
  refine wpList_storeW rfl 41 (.tmp 4) (.tmp 69) rfl b2 rfl _ (zcv H_v69) B_b2 rfl (by kernel_rfl) rfl (fun w13_ M13=>?_)
  replace B_b0:=zwl M13 B_b0 D_b0_b2
  replace B_b1:=zwl M13 B_b1 D_b1_b2
  replace B_b2:=zwb M13
  replace B_b4:=zwg M13 B_b4 D_b2_b4
  replace B_b5:=zwg M13 B_b5 D_b2_b5
  replace R0:=zwr M13 R0 N_b2
  replace HB:=zwr M13 HB N_b2
  replace HPN:=zwr M13 HPN N_b2
  replace EW:=zwe M13 EW O_b2
  go_wp2
  have z0:=run_box (P:=Tryz.prog) 41 B_b2.out Tryz.underlying41 (by kernel_rfl)
  refine bodyPost_ret (by simp [results,Tryz.results33,asAddr,z0]; rfl) rfl ?_
  have hX : serveM ⟨sc,su,sa,sp⟩ ⟨gen,(b :: l),false,⟨nc,nt,⟨nk,na,no,nn⟩⟩,pl,⟨se,sn⟩⟩ = (⟨sc,su,sa,sp⟩,⟨gen,l,true,⟨rc,rt,⟨rk,ra,ro,rn⟩⟩,PL,⟨de,dn⟩⟩,[],0):=by
   show (if (readRq b).2 ≠ 0 then _ else if (lastAn sa (readRq b).1.client).2 = true ∧ (readRq b).1.token ≤ (lastAn sa (readRq b).1.client).1.token then (if (lastAn sa (readRq b).1.client).1.token = (readRq b).1.token then _ else _) else _) = _
   rw [HRR.out]
   simp only []
   rw [HL.out]
   rw [if_neg (by simp),if_neg (fun h=>by have q:=h.2; simp only [] at q; omega),HPL.out,HD.out]
  have ht:=HT.out
  rw [hX] at ht
  exact ⟨_,rfl,EW.out,ht _ _ _ (Rd.widen (A:=B11) (tupB_rd (sv_rd (v:=⟨gen,l,true,⟨rc,rt,⟨rk,ra,ro,rn⟩⟩,PL,⟨de,dn⟩⟩) HB.out HPN.out) (Rd.all fun w=>bytes_nil w)) (fun k _ h=>HK.out.2.2.2 k (I_B1.out k (I_B11.out k h))))⟩

end Go.Proofs.YtdmipnnfooleladGreat

namespace Go.Proofs.YtdmipnnfooleladGreat
open Go.RowKit Go.Mk
set_option maxRecDepth 100000

theorem fourth_block {w wx : World} {o1 o2 o3 o4 : Obj} (h : Ext ((((w.alloc o1).alloc o2).alloc o3).alloc o4) wx) : wx.heap[w.heap.size]? = some o1 ∧ wx.heap[w.heap.size + 1]? = some o2 ∧ wx.heap[w.heap.size + 1 + 1]? = some o3 ∧ wx.heap[w.heap.size + 1 + 1 + 1]? = some o4:=by
 have h3 : Ext (((w.alloc o1).alloc o2).alloc o3) wx:=((Ext.refl _).alloc o4).trans h
 obtain ⟨a,b,c⟩:=third_block h3
 refine ⟨a,b,c,?_⟩
 have:=block_ext h
 simpa using this
theorem keep_block {w w' : World} {row : Option Nat} (hg : w.grownBy w' row) {b : Nat} {o : Obj} (h : w.heap[b]? = some o) (hne : row ≠ some b) : w'.heap[b]? = some o:=by
 rw [hg.block b (Array.getElem?_eq_some_iff.1 h).1 (fun e=>hne e.symm)]
 exact h

theorem write_eq (s : St) (p : Int × Int) : writeSt s p = { s with cells:=setAll s.cells [p],undo:=undoAll s.cells [p] ++ s.undo }:=by
 unfold writeSt
 by_cases h : 0 ≤ p.1 ∧ p.1 < (s.cells.length : Int)
 ·rw [if_pos h]
  have : undoAll s.cells [p] = [(p.1,s.cells.getD p.1.toNat 0)]:=by
   show [] ++ (if 0 ≤ p.1 ∧ p.1 < (s.cells.length : Int) then [(p.1,s.cells.getD p.1.toNat 0)] else []) = _
   rw [if_pos h]
   rfl
  rw [this]
  rfl
 ·rw [if_neg h]
  have h1 : undoAll s.cells [p] = []:=by
   show [] ++ (if 0 ≤ p.1 ∧ p.1 < (s.cells.length : Int) then [(p.1,s.cells.getD p.1.toNat 0)] else []) = _
   rw [if_neg h]
   rfl
  have h2 : setAll s.cells [p] = s.cells:=if_neg h
  rw [h1,h2]
  rfl

set_option maxHeartbeats 2000000 in
theorem Write_any (c u a p : Value) (s : St) (x y : Int) (w : World) (h : elSt w [c,u,a,p] s) (hs : Small s) :
  Keeps Tryz.prog 30 #[.agg #[c,u,a,p],.agg #[I x,I y]] w (fun _=>False) (fun r w'=>Agg elSt (writeSt s (x,y)) r w'):=by
 rw [write_eq]
 unfold Keeps
 have HS:=Lib.hid hs
 clear hs
 have HE:=Lib.hid h
 clear h
 obtain ⟨i0,hi,hz0,hz1,hz2⟩:=info_parts Tryz.infoWrite
 have HI:=Lib.hid hi
 clear hi
 have e0 : Ext w (((w.alloc (.cells #[c,u,a,p] 31)).alloc (.cells #[I x,I y] 79)).alloc (.cells #[.slice none 0 0,.slice none 0 0,.slice none 0 0,.slice none 0 0] 31)):=(((Ext.refl w).alloc _).alloc _).alloc _
 have HB:=Lib.hid (fun wx (h : Ext (((w.alloc (.cells #[c,u,a,p] 31)).alloc (.cells #[I x,I y] 79)).alloc (.cells #[.slice none 0 0,.slice none 0 0,.slice none 0 0,.slice none 0 0] 31)) wx)=>(third_block h).2)
 have hsz : (((w.alloc (.cells #[c,u,a,p] 31)).alloc (.cells #[I x,I y] 79)).alloc (.cells #[.slice none 0 0,.slice none 0 0,.slice none 0 0,.slice none 0 0] 31)).heap.size = w.heap.size + 3:=by simp
 have HSZ:=Lib.hid hsz
 clear hsz
 go_enter Tryz.func30,Tryz.ntmps30
 go_wp2_with fail
 generalize hw0 : ((w.alloc (.cells #[c,u,a,p] 31)).alloc (.cells #[I x,I y] 79)).alloc (.cells #[.slice none 0 0,.slice none 0 0,.slice none 0 0,.slice none 0 0] 31) = w0 at *
 clear hw0
 refine (Own_any c u a p s w0 (monoSt _ _ _ _ e0 HE.out) HS.out).to fun r w1 e1 hr=>?_
 obtain ⟨c',u',a',p',rfl,ho⟩:=hr
 obtain ⟨ka,kc,hk0⟩:=own_slice ho.cells
 obtain ⟨la,lc,hk1⟩:=own_slice ho.undo
 obtain ⟨ma,mc,hk2⟩:=own_slice ho.answers
 obtain ⟨na,nc,hk3⟩:=own_slice ho.past
 subst hk0 hk1 hk2 hk3
 have hle:=e1.size
 have hz0':=HSZ.out
 obtain ⟨A,hA⟩ : ∃ A : Nat → Prop,∀ k,A k ↔ (w.heap.size + 3 ≤ k ∧ k ≠ w1.heap.size):=⟨_,fun _=>Iff.rfl⟩
 have HA:=Lib.hid hA
 clear hA
 have k1:=(rd_ints ho.cells).widen (B:=A) (fun k hk h=>(HA.out k).2 ⟨by omega,by omega⟩)
 have k2:=(rd_writes ho.undo).widen (B:=A) (fun k hk h=>(HA.out k).2 ⟨by omega,by omega⟩)
 have k3:=(rd_anss ho.answers).widen (B:=A) (fun k hk h=>(HA.out k).2 ⟨by omega,by omega⟩)
 have k4:=(rd_rqs ho.past).widen (B:=A) (fun k hk h=>(HA.out k).2 ⟨by omega,by omega⟩)
 clear ho
 have ng : ¬ A w1.heap.size:=fun h=>((HA.out _).1 h).2 rfl
 have n1 : ¬ A (w.heap.size + 1 + 1):=fun h=>by have:=((HA.out _).1 h).1; omega
 have ea:=((Ext.refl w1).alloc (.cells #[(.slice ka s.cells.length kc),(.slice la s.undo.length lc),(.slice ma s.answers.length mc),(.slice na s.past.length nc)] 31)).alloc (.cells #[I x,I y] 79)
 replace k1:=k1.ext ea
 replace k2:=k2.ext ea
 replace k3:=k3.ext ea
 replace k4:=k4.ext ea
 have b3:=block_of (heap_alloc_new w1 (.cells #[(.slice ka s.cells.length kc),(.slice la s.undo.length lc),(.slice ma s.answers.length mc),(.slice na s.past.length nc)] 31)) ((Ext.refl _).alloc (.cells #[I x,I y] 79))
 have hs3 : ((w1.alloc (.cells #[(.slice ka s.cells.length kc),(.slice la s.undo.length lc),(.slice ma s.answers.length mc),(.slice na s.past.length nc)] 31)).alloc (.cells #[I x,I y] 79)).heap.size = w1.heap.size + 2:=by simp
 have ew:=((e0.trans e1).alloc (.cells #[(.slice ka s.cells.length kc),(.slice la s.undo.length lc),(.slice ma s.answers.length mc),(.slice na s.past.length nc)] 31)).alloc (.cells #[I x,I y] 79)
 have b2:=(HB.out _ ((e1.alloc (.cells #[(.slice ka s.cells.length kc),(.slice la s.undo.length lc),(.slice ma s.answers.length mc),(.slice na s.past.length nc)] 31)).alloc (.cells #[I x,I y] 79))).2
 have b1':=(HB.out _ (e1.alloc (.cells #[(.slice ka s.cells.length kc),(.slice la s.undo.length lc),(.slice ma s.answers.length mc),(.slice na s.past.length nc)] 31))).1
 have hlit:=World.ownsRow_lit (base:=w1.heap.size + 1) (e:=79) (size:=2) (w1.alloc (.cells #[(.slice ka s.cells.length kc),(.slice la s.undo.length lc),(.slice ma s.answers.length mc),(.slice na s.past.length nc)] 31)) #[I x,I y] 1 (by simp) (by decide) rfl
 rw [show (w1.alloc (.cells #[(.slice ka s.cells.length kc),(.slice la s.undo.length lc),(.slice ma s.answers.length mc),(.slice na s.past.length nc)] 31)).heap.size = w1.heap.size + 1 by simp] at hlit
 have k5 : Rd A (fun w=>Writes w (.slice (some ⟨w1.heap.size + 1,0,none⟩) 1 1) [(x,y)]) ((w1.alloc (.cells #[(.slice ka s.cells.length kc),(.slice la s.undo.length lc),(.slice ma s.answers.length mc),(.slice na s.past.length nc)] 31)).alloc (.cells #[I x,I y] 79)):=(rd_writes (l:=[(x,y)]) hlit).widen (fun k hk h=>(HA.out k).2 (by omega))
 obtain ⟨y0,y1,-⟩:=box2 b1'
 have K1:=Lib.hid k1
 have K2:=Lib.hid k2
 have K3:=Lib.hid k3
 have K4:=Lib.hid k4
 have K5:=Lib.hid k5
 have B3:=Lib.hid b3
 have B2:=Lib.hid b2
 have HS3:=Lib.hid hs3
 have EW:=Lib.hid ew
 have HLE:=Lib.hid hle
 have HZ0:=Lib.hid hz0'
 clear k1 k2 k3 k4 k5 b3 b2 hs3 ew ea hle hz0' hlit b1'
 go_wp2_with fail
 clear y0 y1
 generalize hw3 : (w1.alloc (.cells #[(.slice ka s.cells.length kc),(.slice la s.undo.length lc),(.slice ma s.answers.length mc),(.slice na s.past.length nc)] 31)).alloc (.cells #[I x,I y] 79) = w3 at *
 clear hw3
 obtain ⟨x0,x1,-⟩:=box4 B3.out
 refine wp_region_mono_weak 6 [none,none,none,some (.inr fun v wx=>∃ n,wx.ownsRow w3.heap.size 79 2 v n (cells2 (undoAll s.cells [(x,y)]))),none,none] (fun v wx=>∃ n,wx.ownsRow w3.heap.size 79 2 v n (cells2 (undoAll s.cells [(x,y)] ++ s.undo))) (by kernel_rfl) (by kernel_rfl) (by kernel_rfl) ?_ (fun v _ _ he ⟨n,h⟩=>⟨n,owns_ext h he⟩) ?_
 ·exact ⟨trivial,trivial,trivial,(fun v _ _ he ⟨n,h⟩=>⟨n,owns_ext h he⟩),trivial,trivial,trivial⟩
 iterate 1 (refine wpM_p (fun K hK=>?_); go_simp; first | refine hK _ ?_ | refine ⟨(fun h=>by cases h),hK _ ?_⟩; clear hK K)
 refine wpM_q ((.slice ka s.cells.length kc)) rfl (fun w' hw'=>by have q0:=hw'.cell x0; go_simp) ?_
 refine wpM_norm (fun K hK=>?_); go_simp; refine hK _ ?_; clear hK K
 iterate 1 (refine wpM_p (fun K hK=>?_); go_simp; first | refine hK _ ?_ | refine ⟨(fun h=>by cases h),hK _ ?_⟩; clear hK K)
 refine wpM_l _ rfl (fun w' hw' hk=>?_) (fun v14=>?_)
 ·have hle:=hw'.size
  clear hk
  unfold makes
  go_simp
  exact ⟨Ext.refl _,(Undo_own _ _ s.cells [(x,y)] w' (K1.out.out.ext hw') (K5.out.out.ext hw') (by have:=HS.out.1; omega) (by simp)).mono fun _ _ _ ⟨n,h⟩=>⟨n,owns_base h hle⟩⟩
 refine wpM_norm (fun K hK=>?_); go_simp; refine hK _ ?_; clear hK K
 iterate 1 (refine wpM_p (fun K hK=>?_); go_simp; first | refine hK _ ?_ | refine ⟨(fun h=>by cases h),hK _ ?_⟩; clear hK K)
 refine wpM_q ((.slice la s.undo.length lc)) rfl (fun w' hw'=>by have q0:=hw'.cell x1; go_simp) ?_
 refine wpM_norm (fun K hK=>?_); go_simp; refine hK _ ?_; clear hK K
 refine wpM_nil ⟨_,_,rfl,rfl,rfl,fun w' hw' hk=>?_,fun v17 w4 e4 ho4=>?_⟩
 ·obtain ⟨n14,h14⟩ : ∃ n,w'.ownsRow w3.heap.size 79 2 v14 n (cells2 (undoAll s.cells [(x,y)])):=hk 14 (by decide)
  have hn14 : n14 ≤ 1:=by
   have h1:=h14.1
   have h2:=undoAll_len s.cells [(x,y)]
   rw [length_cells2] at h1
   simp at h2
   omega
  obtain ⟨vv,ww,hrun,hoo,hgg⟩:=run_append_row (P:=Tryz.prog) w' w3.heap.size 27 27 79 i0 _ 2 16 Tryz.underlying27 HI.out hz0 hz1 hz2 rfl (by decide) v14 _ _ h14 (.slice la s.undo.length lc) s.undo.length _ (K2.out.out.ext hw') (cells2_one _) (by have:=HS.out.2.1; omega) (by decide) hw'.size
  exact ⟨vv,ww,run_append_op rfl rfl rfl hrun,hw'.grown hgg (fun j hj=>(h14.lt j hj).1),_,by rw [cells2_append]; exact hoo⟩
 obtain ⟨n17,ho4⟩:=ho4
 clear x0 x1
 obtain ⟨va,vc,hvs⟩:=own_slice ho4
 subst hvs
 have hle:=HLE.out
 have hz0':=HZ0.out
 have hs3:=HS3.out
 have k6 : Rd A (fun w=>Writes w (.slice va n17 vc) (undoAll s.cells [(x,y)] ++ s.undo)) w4:=(rd_writes ho4).widen (fun k hk h=>(HA.out k).2 (by omega))
 have d3:=block_of B3.out e4
 have d2:=block_of B2.out e4
 have ew:=EW.out.trans e4
 have K1':=Lib.hid ((K1.out.ext e4).set ng 1 (.slice va n17 vc))
 have K3':=Lib.hid ((K3.out.ext e4).set ng 1 (.slice va n17 vc))
 have K4':=Lib.hid ((K4.out.ext e4).set ng 1 (.slice va n17 vc))
 have K5':=Lib.hid ((K5.out.ext e4).set ng 1 (.slice va n17 vc))
 have K6':=Lib.hid (k6.set ng 1 (.slice va n17 vc))
 have hle4:=e4.size
 have HLE4:=Lib.hid hle4
 clear k6 ho4 hle hz0' hs3 K1 K2 K3 K4 K5 hle4
 obtain ⟨x0,x1,x2,x3,f0,f1,f2,f3⟩:=box4 d3
 go_wp2_with fail
 clear x0 x1 x2 x3 f0 f1 f2 f3
 refine (Set_own _ _ s.cells [(x,y)] _ K1'.out.out K5'.out.out (by have:=HS.out.1; omega) (by simp)).to fun r w5 e5 ⟨n5,ho5⟩=>?_
 have hle:=HLE.out
 have hz0':=HZ0.out
 have hs3:=HS3.out
 have hle4:=HLE4.out
 have k7:=(rd_ints ho5).widen (B:=A) (fun k hk h=>(HA.out k).2 (by simp at h; omega))
 obtain ⟨ra,rc,hrs⟩:=own_slice ho5
 subst hrs
 have c3 : (w4.setCell ⟨w1.heap.size,1,none⟩ (.slice va n17 vc)).heap[w1.heap.size]? = some (.cells #[(.slice ka s.cells.length kc),.slice va n17 vc,(.slice ma s.answers.length mc),(.slice na s.past.length nc)] 31 (0,0)):=by
  have:=heap_setCell_same _ _ 1 _ _ (.slice va n17 vc) d3
  simpa using this
 have c2:=block_set (i:=1) (x:=.slice va n17 vc) d2 (show w.heap.size + 1 + 1 ≠ w1.heap.size by omega)
 replace ew:=(ew.setCell (p:=⟨w1.heap.size,1,none⟩) (by show w.heap.size ≤ w1.heap.size; omega) (.slice va n17 vc)).trans e5
 have g3:=block_of c3 e5
 have g2:=block_of c2 e5
 have L3:=Lib.hid (K3'.out.ext e5)
 have L4:=Lib.hid (K4'.out.ext e5)
 have L6:=Lib.hid (K6'.out.ext e5)
 have L7:=Lib.hid k7
 have hn1 : ¬ (w1.heap.size = w.heap.size + 1 + 1):=by omega
 have hn2 : ¬ (w.heap.size + 1 + 1 = w1.heap.size):=by omega
 clear k7 ho5 hle hz0' hs3 hle4 e4 e5 c3 c2 d3 d2 K1' K3' K4' K5' K6'
 obtain ⟨x0,x1,x2,x3,f0,f1,f2,f3⟩:=box4 g3
 obtain ⟨y0,y1,y2,y3,h0,h1,h2,h3⟩:=box4 g2
 go_wp2_with fail
 clear x0 x1 x2 x3 f0 f1 f2 f3 y0 y1 y2 y3 h0 h1 h2 h3
 have d4:=set4 (block_set (i:=0) (x:=.slice ra n5 rc) g2 hn2) (.slice ra n5 rc) (.slice va n17 vc) (.slice ma s.answers.length mc) (.slice na s.past.length nc)
 obtain ⟨q0,q1,q2,q3,-⟩:=box4 d4
 have hle:=HLE.out
 have hz0':=HZ0.out
 have m2:=ext_set4 (ew.setCell (p:=⟨w1.heap.size,0,none⟩) (by show w.heap.size ≤ w1.heap.size; omega) (.slice ra n5 rc)) (b:=w.heap.size + 1 + 1) (by omega) (.slice ra n5 rc) (.slice va n17 vc) (.slice ma s.answers.length mc) (.slice na s.past.length nc)
 refine bodyPost_ret (by simp [results,Tryz.results30,go_sem,q0,q1,q2,q3]; rfl) rfl ?_
 refine ⟨_,rfl,m2,Rd.widen (A:=A) (agg_rd (st_rd (s:={ s with cells:=setAll s.cells [(x,y)],undo:=undoAll s.cells [(x,y)] ++ s.undo }) ?_ ?_ ?_ ?_)) (fun k _ h=>.inr (by have:=((HA.out k).1 h).1; omega))⟩
 ·exact (L7.out.set ng _ _).set4 n1 _ _ _ _
 ·exact (L6.out.set ng _ _).set4 n1 _ _ _ _
 ·exact (L3.out.set ng _ _).set4 n1 _ _ _ _
 ·exact (L4.out.set ng _ _).set4 n1 _ _ _ _

end Go.Proofs.YtdmipnnfooleladGreat

namespace Go.Proofs.YtdmipnnfooleladGreat
open Go.RowKit Go.Mk
set_option maxRecDepth 100000

theorem rq_lit {w : World} (e : TypeId) (r : Rq) : Row (w.alloc (.cells #[I r.client,I r.token,I r.call.kind,I r.call.name,I r.call.other,I r.call.n] e)) 6 (.slice (some ⟨w.heap.size,0,none⟩) 1 1) 1 (cells6 [r]) :=
 Row.of_owns (World.ownsRow_lit (base:=0) (e:=e) (size:=6) w #[I r.client,I r.token,I r.call.kind,I r.call.name,I r.call.other,I r.call.n] 1 (Nat.zero_le _) (by decide) rfl)

theorem owns_lo {w : World} {base e size n : Nat} {v : Value} {xs : List Value} (h : w.ownsRow base e size v n xs) : ∀ k,v.ownBlock = some k → base ≤ k:=fun k hk=>(h.lt k hk).1

set_option maxHeartbeats 2000000 in
theorem Commit_any (c u a p : Value) (s : St) (rc rt rk ra ro rn x n : Int) (w : World) (h : elSt w [c,u,a,p] s) (hs : Small s) :
  Keeps Tryz.prog 31 #[.agg #[c,u,a,p],.agg #[I rc,I rt,I rk,I ra,I ro,I rn],.agg #[I x,I n]] w (fun _=>False) (fun r w'=>Agg elSt (commitSt s ⟨rc,rt,⟨rk,ra,ro,rn⟩⟩ ⟨x,n⟩) r w'):=by
 unfold Keeps
 have HS:=Lib.hid hs
 clear hs
 have HE:=Lib.hid h
 clear h
 obtain ⟨i0,hi,hz0,hz1,hz2⟩:=info_parts Tryz.infoRequest
 have HI:=Lib.hid hi
 clear hi
 have e0 : Ext w ((((w.alloc (.cells #[c,u,a,p] 31)).alloc (.cells #[I rc,I rt,I rk,I ra,I ro,I rn] 36)).alloc (.cells #[I x,I n] 39)).alloc (.cells #[.slice none 0 0,.slice none 0 0,.slice none 0 0,.slice none 0 0] 31)):=((((Ext.refl w).alloc _).alloc _).alloc _).alloc _
 have HB:=Lib.hid (fun wx (h : Ext ((((w.alloc (.cells #[c,u,a,p] 31)).alloc (.cells #[I rc,I rt,I rk,I ra,I ro,I rn] 36)).alloc (.cells #[I x,I n] 39)).alloc (.cells #[.slice none 0 0,.slice none 0 0,.slice none 0 0,.slice none 0 0] 31)) wx)=>(fourth_block h).2)
 have hsz : ((((w.alloc (.cells #[c,u,a,p] 31)).alloc (.cells #[I rc,I rt,I rk,I ra,I ro,I rn] 36)).alloc (.cells #[I x,I n] 39)).alloc (.cells #[.slice none 0 0,.slice none 0 0,.slice none 0 0,.slice none 0 0] 31)).heap.size = w.heap.size + 4:=by simp
 have HSZ:=Lib.hid hsz
 clear hsz
 go_enter Tryz.func31,Tryz.ntmps31
 go_wp2_with fail
 generalize hw0 : (((w.alloc (.cells #[c,u,a,p] 31)).alloc (.cells #[I rc,I rt,I rk,I ra,I ro,I rn] 36)).alloc (.cells #[I x,I n] 39)).alloc (.cells #[.slice none 0 0,.slice none 0 0,.slice none 0 0,.slice none 0 0] 31) = w0 at *
 clear hw0
 refine (Own_any c u a p s w0 (monoSt _ _ _ _ e0 HE.out) HS.out).to fun r w1 e1 hr=>?_
 obtain ⟨c',u',a',p',rfl,ho⟩:=hr
 obtain ⟨ka,kc,hk0⟩:=own_slice ho.cells
 obtain ⟨la,lc,hk1⟩:=own_slice ho.undo
 obtain ⟨ma,mc,hk2⟩:=own_slice ho.answers
 obtain ⟨na,nc,hk3⟩:=own_slice ho.past
 subst hk0 hk1 hk2 hk3
 have hle:=e1.size
 have hz0':=HSZ.out
 have HLE:=Lib.hid hle
 have HZ0:=Lib.hid hz0'
 have HO:=Lib.hid (ho.low (Nat.le_add_right w0.heap.size 2))
 clear ho
 have hng : ∀ {e size m : Nat} {v : Value} {xs : List Value},w1.ownsRow (w0.heap.size) e size v m xs → v.ownBlock ≠ some w1.heap.size:=fun h e=>by have:=(h.lt _ e).2; omega
 have HNG:=Lib.hid (And.intro (hng HO.out.cells) (And.intro (hng HO.out.answers) (hng HO.out.past)))
 clear hng
 obtain ⟨t1,t2,t3⟩:=HB.out _ (e1.alloc (.cells #[(.slice ka s.cells.length kc),(.slice la s.undo.length lc),(.slice ma s.answers.length mc),(.slice na s.past.length nc)] 31))
 have T1:=Lib.hid t1
 have T2:=Lib.hid t2
 have T3:=Lib.hid t3
 have B3:=Lib.hid (heap_alloc_new w1 (.cells #[(.slice ka s.cells.length kc),(.slice none 0 0),(.slice ma s.answers.length mc),(.slice na s.past.length nc)] 31))
 have hn1 : ¬ (w1.heap.size = w.heap.size + 1):=by omega
 have hn1' : ¬ (w.heap.size + 1 = w1.heap.size):=by omega
 have hn2 : ¬ (w1.heap.size = w.heap.size + 1 + 1):=by omega
 have hn2' : ¬ (w.heap.size + 1 + 1 = w1.heap.size):=by omega
 obtain ⟨t1,t2,t3⟩:=HB.out _ (e1.alloc (.cells #[(.slice ka s.cells.length kc),(.slice none 0 0),(.slice ma s.answers.length mc),(.slice na s.past.length nc)] 31))
 have T1:=Lib.hid t1
 have T2:=Lib.hid t2
 have T3:=Lib.hid t3
 clear hle hz0'
 obtain ⟨⟨r0,r1,r2,r3,r4,r5⟩,-⟩:=box6 T1.out
 clear t1 t2 t3
 go_wp2_with (at_builtin; refine stop_at ?_)
 unfold Hid
 clear r0 r1 r2 r3 r4 r5
 have hlit:=rq_lit (w:=w1.alloc (.cells #[(.slice ka s.cells.length kc),(.slice none 0 0),(.slice ma s.answers.length mc),(.slice na s.past.length nc)] 31)) 36 ⟨rc,rt,⟨rk,ra,ro,rn⟩⟩
 rw [show (w1.alloc (.cells #[(.slice ka s.cells.length kc),(.slice none 0 0),(.slice ma s.answers.length mc),(.slice na s.past.length nc)] 31)).heap.size = w1.heap.size + 1 by simp] at hlit
 have ea:=((Ext.refl w1).alloc (.cells #[(.slice ka s.cells.length kc),(.slice none 0 0),(.slice ma s.answers.length mc),(.slice na s.past.length nc)] 31)).alloc (.cells #[I rc,I rt,I rk,I ra,I ro,I rn] 36)
 have hsA : ((w1.alloc (.cells #[(.slice ka s.cells.length kc),(.slice none 0 0),(.slice ma s.answers.length mc),(.slice na s.past.length nc)] 31)).alloc (.cells #[I rc,I rt,I rk,I ra,I ro,I rn] 36)).heap.size = w1.heap.size + 2:=by simp
 have bA:=block_of B3.out ((Ext.refl _).alloc (.cells #[I rc,I rt,I rk,I ra,I ro,I rn] 36))
 have uA:=block_of T1.out ((Ext.refl _).alloc (.cells #[I rc,I rt,I rk,I ra,I ro,I rn] 36))
 have vA:=block_of T2.out ((Ext.refl _).alloc (.cells #[I rc,I rt,I rk,I ra,I ro,I rn] 36))
 have zA:=block_of T3.out ((Ext.refl _).alloc (.cells #[I rc,I rt,I rk,I ra,I ro,I rn] 36))
 refine wpList_append_row _ rfl (.tmp 12) (.tmp 14) 29 rfl (w0.heap.size) 36 i0 (.agg #[.int .i64 0,.int .i64 0,.int .i64 0,.int .i64 0,.int .i64 0,.int .i64 0]) 6 48 Tryz.underlying29 HI.out hz0 hz1 hz2 rfl (by decide) (.slice na s.past.length nc) s.past.length (cells6 s.past) rfl (owns_ext HO.out.past ea) _ rfl 1 _ hlit (cells6_one _) (by have:=HS.out.2.2.2; omega) (by decide) (by have:=HLE.out; rw [hsA]; omega) ?_
 intro v15 w2 ho2 hg2
 rw [← cells6_append] at ho2
 clear hlit
 have hP:=HNG.out.2.2
 have hPs:=owns_lo HO.out.past
 have hz0':=HZ0.out
 have oc:=(owns_ext HO.out.cells ea).kept hg2 (own_types (owns_ext HO.out.cells ea) (owns_ext HO.out.past ea) (by decide))
 have oa:=(owns_ext HO.out.answers ea).kept hg2 (own_types (owns_ext HO.out.answers ea) (owns_ext HO.out.past ea) (by decide))
 have b2:=keep_block hg2 bA hP
 have u2:=keep_block hg2 uA (fun e=>by have:=hPs _ e; omega)
 have v2:=keep_block hg2 vA (fun e=>by have:=hPs _ e; omega)
 have z2:=keep_block hg2 zA (fun e=>by have:=hPs _ e; omega)
 have ew : Ext w w2:=((e0.trans e1).trans ea).grown hg2 (fun k e=>by have:=hPs _ e; omega)
 have hle2:=hg2.size
 rw [hsA] at hle2
 clear bA uA vA zA ea hsA hg2 hP hPs hz0'
 have hnv : v15.ownBlock ≠ some w1.heap.size:=own_ne ho2 b2 (by decide)
 obtain ⟨va,vc,hvs⟩:=own_slice ho2
 subst hvs
 have OC:=Lib.hid (owns_setCell oc HNG.out.1 3 (.slice va (s.past.length + 1) vc))
 have OA:=Lib.hid (owns_setCell oa HNG.out.2.1 3 (.slice va (s.past.length + 1) vc))
 have OP:=Lib.hid (owns_setCell ho2 hnv 3 (.slice va (s.past.length + 1) vc))
 have hz0':=HZ0.out
 have EW:=Lib.hid (ew.setCell (p:=⟨w1.heap.size,3,none⟩) (by have:=HLE.out; show w.heap.size ≤ w1.heap.size; omega) (.slice va (s.past.length + 1) vc))
 have BB : Hid ((w2.setCell ⟨w1.heap.size,3,none⟩ (.slice va (s.past.length + 1) vc)).heap[w1.heap.size]? = some (.cells #[(.slice ka s.cells.length kc),(.slice none 0 0),(.slice ma s.answers.length mc),.slice va (s.past.length + 1) vc] 31 (0,0))):=by
  have:=heap_setCell_same _ _ 3 _ _ (.slice va (s.past.length + 1) vc) b2
  unfold Hid
  simpa using this
 have ZZ:=Lib.hid (block_set (i:=3) (x:=.slice va (s.past.length + 1) vc) z2 (show w.heap.size + 1 + 1 + 1 ≠ w1.heap.size by have:=HLE.out; omega))
 have HLE2:=Lib.hid hle2
 obtain ⟨⟨r0,r1,r2,r3,r4,r5⟩,-⟩:=box6 u2
 obtain ⟨s0,s1,-⟩:=box2 v2
 obtain ⟨x0,x1,x2,x3,f0,f1,f2,f3⟩:=box4 b2
 clear oc oa ho2 b2 u2 v2 z2 ew hle2 hz0' hnv
 go_wp2_with fail
 clear r0 r1 r2 r3 r4 r5 s0 s1 x0 x1 x2 x3 f0 f1 f2 f3
 have hbase : w0.heap.size ≤ (w2.setCell ⟨w1.heap.size,3,none⟩ (.slice va (s.past.length + 1) vc)).heap.size:=by
  have h1:=HLE.out
  have h2:=HLE2.out
  simp
  omega
 generalize hw3 : w2.setCell ⟨w1.heap.size,3,none⟩ (.slice va (s.past.length + 1) vc) = w3 at *
 clear hw3
 refine (put_anyS (.slice ma s.answers.length mc) s.answers rc rt x n (w0.heap.size) w3 OA.out (by have:=HS.out.2.2.1; omega) hbase).mono ?_
 rintro e w4 ⟨r25,rfl,ho4,hg4⟩
 have hPs:=owns_lo OA.out
 have hz0':=HZ0.out
 have oc:=OC.out.kept hg4 (own_types OC.out OA.out (by decide))
 have op:=OP.out.kept hg4 (own_types OP.out OA.out (by decide))
 have b4:=keep_block hg4 BB.out HNG.out.2.1
 have z4:=keep_block hg4 ZZ.out (fun e=>by have:=hPs _ e; omega)
 have ew : Ext w w4:=EW.out.grown hg4 (fun k e=>by have:=hPs _ e; omega)
 have hnr : r25.ownBlock ≠ some w1.heap.size:=own_ne ho4 b4 (by decide)
 have hnp : (Value.slice va (s.past.length + 1) vc).ownBlock ≠ some w1.heap.size:=own_ne op b4 (by decide)
 obtain ⟨qa,qc,hqs⟩:=own_slice ho4
 subst hqs
 generalize hM : (putAn s.answers ⟨rc,rt,⟨x,n⟩⟩).length = M at *
 have OC2:=Lib.hid (owns_setCell oc HNG.out.1 2 (.slice qa M qc))
 have OA2:=Lib.hid (owns_setCell ho4 hnr 2 (.slice qa M qc))
 have OP2:=Lib.hid (owns_setCell op hnp 2 (.slice qa M qc))
 have hn3 : ¬ (w1.heap.size = w.heap.size + 1 + 1 + 1):=by have:=HLE.out; omega
 have hn3' : ¬ (w.heap.size + 1 + 1 + 1 = w1.heap.size):=by have:=HLE.out; omega
 have EW4:=Lib.hid ew
 clear oc op ho4 hg4 hPs hz0' hnr hnp ew hbase OC OA OP
 obtain ⟨x0,x1,x2,x3,f0,f1,f2,f3⟩:=box4 b4
 obtain ⟨y0,y1,y2,y3,g0,g1,g2,g3⟩:=box4 z4
 go_wp2_with fail
 clear x0 x1 x2 x3 f0 f1 f2 f3 y0 y1 y2 y3 g0 g1 g2 g3
 have d4:=set4 (block_set (i:=2) (x:=.slice qa M qc) z4 hn3') (.slice ka s.cells.length kc) (.slice none 0 0) (.slice qa M qc) (.slice va (s.past.length + 1) vc)
 obtain ⟨q0,q1,q2,q3,-⟩:=box4 d4
 have hle:=HLE.out
 have hz0':=HZ0.out
 have m2:=ext_set4 (EW4.out.setCell (p:=⟨w1.heap.size,2,none⟩) (by show w.heap.size ≤ w1.heap.size; omega) (.slice qa M qc)) (b:=w.heap.size + 1 + 1 + 1) (by omega) (.slice ka s.cells.length kc) (.slice none 0 0) (.slice qa M qc) (.slice va (s.past.length + 1) vc)
 have n3 : ¬ (w0.heap.size ≤ w.heap.size + 1 + 1 + 1):=by omega
 refine bodyPost_ret (by simp [results,Tryz.results31,go_sem,q0,q1,q2,q3]; rfl) rfl ?_
 refine ⟨_,rfl,m2,Rd.widen (A:=fun k=>w0.heap.size ≤ k) (agg_rd (st_rd (s:=commitSt s ⟨rc,rt,⟨rk,ra,ro,rn⟩⟩ ⟨x,n⟩) ?_ ?_ ?_ ?_)) (fun k _ h=>.inr (by omega))⟩
 ·exact (rd_ints OC2.out).set4 n3 _ _ _ _
 ·exact Rd.all fun w=>writes_nil w
 ·exact (rd_anss OA2.out).set4 n3 _ _ _ _
 ·exact (rd_rqs OP2.out).set4 n3 _ _ _ _

end Go.Proofs.YtdmipnnfooleladGreat
