/- Texts of the proof, merged: V5 N10. -/
import Derived.Test.YtdmipnnfooleladGreatJP
import Derived.Test.YtdmipnnfooleladGreatJN

namespace Go.Proofs.YtdmipnnfooleladGreat
open Go.RowKit Go.Mk
set_option maxRecDepth 100000

theorem OwnSt.rd_in {base : Nat} {w : World} {c u a p : Value} {s : St} {B : Nat → Prop} (h : OwnSt base w c u a p s) (hB : ∀ g,base ≤ g → (∀ cs t,w.heap[g]? = some (.cells cs t (0,0)) → t = 3 ∨ t = 79 ∨ t = 59 ∨ t = 36) → B g) :
  Rd B (fun w=>Ints w c s.cells) w ∧ Rd B (fun w=>Writes w u s.undo) w ∧ Rd B (fun w=>RowOf 4 elAn w a s.answers) w ∧ Rd B (fun w=>RowOf 6 elRq w p s.past) w:=by
 have hin : ∀ {e size n : Nat} {v : Value} {cs : List Value},w.ownsRow base e size v n cs → (e = 3 ∨ e = 79 ∨ e = 59 ∨ e = 36) → ∀ g,v.ownBlock = some g → B g:=fun {e size n v cs} ho he g hg=>by
  refine hB g (ho.lt g hg).1 (fun cs' t' hc=>?_)
  by_cases hne : e = t'
  ·rw [← hne]; exact he
  ·exact absurd hg (own_ne ho hc hne)
 exact ⟨rd_owns_in h.cells (hin h.cells (by simp)),rd_owns_in h.undo (hin h.undo (by simp)),
  (rd_owns_in h.answers (hin h.answers (by simp))).imp fun w h=>(rowOf_flat (f:=fun (x : An)=>[I x.client,I x.token,I x.reply.err,I x.reply.n]) (fun _=>rfl)).2 h,
  (rd_owns_in h.past (hin h.past (by simp))).imp fun w h=>rowOf_reqs.2 h⟩
theorem serve_take (s : St) (v : Sv) {b : List UInt8} {l : List (List UInt8)} (h1 : v.busy = false) (h2 : v.box = b :: l) : (serveM s v).1 = s ∧ (serveM s v).2.2.2 = 0:=by
 unfold serveM
 rw [h1,h2]
 dsimp only
 rw [if_neg (by simp)]
 repeat' split
 all_goals exact ⟨rfl,rfl⟩

set_option maxHeartbeats 8000000 in
theorem Go_keeps (sc : List Int) (su : List (Int × Int)) (sa : List An) (sp : List Rq) (gen : Int) (bl : List (List UInt8)) (busy : Bool) (nc nt nk na no nn : Int) (pl : List (Int × Int)) (se sn : Int) (c u a p box plan : Value) (w : World) (hs : elSt w [c,u,a,p] ⟨sc,su,sa,sp⟩) (hb : RowOf 1 elBs w box bl) (hp : Writes w plan pl)
  (hsm : Small ⟨sc,su,sa,sp⟩) (hsv : SmallV ⟨gen,bl,busy,⟨nc,nt,⟨nk,na,no,nn⟩⟩,pl,⟨se,sn⟩⟩) (hwo : busy = false → Weak sc) :
  Keeps Tryz.prog 12 #[.agg #[c,u,a,p],.agg #[I gen,box,.bool busy,I nc,I nt,I nk,I na,I no,I nn,plan,I se,I sn]] w (fun _=>False) (fun r w'=>Tup4 (serveM ⟨sc,su,sa,sp⟩ ⟨gen,bl,busy,⟨nc,nt,⟨nk,na,no,nn⟩⟩,pl,⟨se,sn⟩⟩).1 (serveM ⟨sc,su,sa,sp⟩ ⟨gen,bl,busy,⟨nc,nt,⟨nk,na,no,nn⟩⟩,pl,⟨se,sn⟩⟩).2.1 (serveM ⟨sc,su,sa,sp⟩ ⟨gen,bl,busy,⟨nc,nt,⟨nk,na,no,nn⟩⟩,pl,⟨se,sn⟩⟩).2.2.1 (serveM ⟨sc,su,sa,sp⟩ ⟨gen,bl,busy,⟨nc,nt,⟨nk,na,no,nn⟩⟩,pl,⟨se,sn⟩⟩).2.2.2 r w'):=by
 suffices hall : ∀ T : Value → World → Prop,(∀ r A w,Rd A (Tup4 (serveM ⟨sc,su,sa,sp⟩ ⟨gen,bl,busy,⟨nc,nt,⟨nk,na,no,nn⟩⟩,pl,⟨se,sn⟩⟩).1 (serveM ⟨sc,su,sa,sp⟩ ⟨gen,bl,busy,⟨nc,nt,⟨nk,na,no,nn⟩⟩,pl,⟨se,sn⟩⟩).2.1 (serveM ⟨sc,su,sa,sp⟩ ⟨gen,bl,busy,⟨nc,nt,⟨nk,na,no,nn⟩⟩,pl,⟨se,sn⟩⟩).2.2.1 (serveM ⟨sc,su,sa,sp⟩ ⟨gen,bl,busy,⟨nc,nt,⟨nk,na,no,nn⟩⟩,pl,⟨se,sn⟩⟩).2.2.2 r) w → Rd A (T r) w) → Keeps Tryz.prog 12 #[.agg #[c,u,a,p],.agg #[I gen,box,.bool busy,I nc,I nt,I nk,I na,I no,I nn,plan,I se,I sn]] w (fun _=>False) T from hall _ (fun _ _ _ h=>h)
 intro T hT
 have HT:=Lib.hid hT
 clear hT
 unfold Keeps
 obtain ⟨s1,s2,s3,s4⟩:=st_iff.1 hs
 obtain ⟨ca,cc,rfl⟩:=row_slice s1
 obtain ⟨ua,uc,rfl⟩:=row_slice s2
 obtain ⟨aa,ac,rfl⟩:=rowOf_slice s3
 obtain ⟨pa,pc,rfl⟩:=rowOf_slice s4
 simp only [] at *
 obtain ⟨xa,xc,rfl⟩:=rowOf_slice hb
 obtain ⟨la,lc,rfl⟩:=row_slice hp
 have HS:=Lib.hid hs
 have HB0:=Lib.hid hb
 have HP0:=Lib.hid hp
 have HSM:=Lib.hid hsm
 have HSV:=Lib.hid hsv
 have HWO:=Lib.hid hwo
 clear s1 s2 s3 s4 hs hb hp hsm hsv hwo
 have EW:=Lib.hid (Ext.refl w)
 go_enter Tryz.func12,Tryz.ntmps12
 go_wp2_with ((with_reducible refine zst (L:=[44,41,31,100]) ?_ ?_); exact rfl)
 unfold Hid
 refine wpList_boxB rfl 31 (.tmp 0) rfl #[.slice ca sc.length cc,.slice ua su.length uc,.slice aa sa.length ac,.slice pa sp.length pc] rfl (fun b0 w1_ M1=>?_)
 have B_b0:=zmb M1
 replace EW:=zet EW M1
 go_wp2_with ((with_reducible refine zst (L:=[44,41,31,100]) ?_ ?_); exact rfl)
 unfold Hid
 refine wpList_boxB rfl 41 (.tmp 1) rfl #[I gen,.slice xa bl.length xc,.bool busy,I nc,I nt,I nk,I na,I no,I nn,.slice la pl.length lc,I se,I sn] rfl (fun b1 w2_ M2=>?_)
 have D_b0_b1:=zld B_b0 M2
 replace B_b0:=zmo M2 B_b0
 have B_b1:=zmb M2
 replace EW:=zet EW M2
 go_wp2_with ((with_reducible refine zst (L:=[44,41,31,100]) ?_ ?_); exact rfl)
 unfold Hid
 refine wpList_allocB rfl 31 #[.slice none 0 0,.slice none 0 0,.slice none 0 0,.slice none 0 0] (by kernel_rfl) (fun b2 w3_ M3=>?_)
 have D_b0_b2:=zld B_b0 M3
 have D_b1_b2:=zld B_b1 M3
 replace B_b0:=zmo M3 B_b0
 replace B_b1:=zmo M3 B_b1
 have B_b2:=zmb M3
 replace EW:=zet EW M3
 go_wp2_with ((with_reducible refine zst (L:=[44,41,31,100]) ?_ ?_); exact rfl)
 unfold Hid
 refine wpList_allocB rfl 41 #[I 0,.slice none 0 0,.bool false,I 0,I 0,I 0,I 0,I 0,I 0,.slice none 0 0,I 0,I 0] (by kernel_rfl) (fun b3 w4_ M4=>?_)
 have D_b0_b3:=zld B_b0 M4
 have D_b1_b3:=zld B_b1 M4
 have D_b2_b3:=zld B_b2 M4
 replace B_b0:=zmo M4 B_b0
 replace B_b1:=zmo M4 B_b1
 replace B_b2:=zmo M4 B_b2
 have B_b3:=zmb M4
 replace EW:=zet EW M4
 have A_b0 : Hid (b0 = w.heap.size + 0):=by unfold Hid; have q0:=M1.out.at_; have r0:=M1.out.size; omega
 have O_b0:=zob A_b0
 have A_b1 : Hid (b1 = w.heap.size + 1):=by unfold Hid; have q0:=M1.out.at_; have r0:=M1.out.size; have q1:=M2.out.at_; have r1:=M2.out.size; omega
 have O_b1:=zob A_b1
 have A_b2 : Hid (b2 = w.heap.size + 2):=by unfold Hid; have q0:=M1.out.at_; have r0:=M1.out.size; have q1:=M2.out.at_; have r1:=M2.out.size; have q2:=M3.out.at_; have r2:=M3.out.size; omega
 have O_b2:=zob A_b2
 have A_b3 : Hid (b3 = w.heap.size + 3):=by unfold Hid; have q0:=M1.out.at_; have r0:=M1.out.size; have q1:=M2.out.at_; have r1:=M2.out.size; have q2:=M3.out.at_; have r2:=M3.out.size; have q3:=M4.out.at_; have r3:=M4.out.size; omega
 have O_b3:=zob A_b3
 have SZ4 : Hid (w4_.heap.size = w.heap.size + 4):=by unfold Hid; have q:=M4.out.size; have q2:=A_b3.out; omega
 go_wp2_with fail
 refine wp_region_mono_tail 6 [none,some (.inr (fun (r : Value) (wx : World)=>∃ c' u' a' p',r = .agg #[c',u',a',p'] ∧ OwnSt w4_.heap.size wx c' u' a' p' ⟨sc,su,sa,sp⟩)),none,some (.inr (fun (r : Value) (wx : World)=>∃ box' plan',r = .agg (cells12 ⟨gen,bl,busy,⟨nc,nt,⟨nk,na,no,nn⟩⟩,pl,⟨se,sn⟩⟩ box' plan').toArray ∧ OwnSv w4_.heap.size wx box' plan' ⟨gen,bl,busy,⟨nc,nt,⟨nk,na,no,nn⟩⟩,pl,⟨se,sn⟩⟩)),some (.inr (BoxC w4_.heap.size 31 #[.slice none 0 0,.slice none 0 0,.slice none 0 0,.slice none 0 0])),some (.inr (BoxC w4_.heap.size 41 #[I 0,.slice none 0 0,.bool false,I 0,I 0,I 0,I 0,I 0,I 0,.slice none 0 0,I 0,I 0]))] (by kernel_rfl) (by kernel_rfl) ?_ ?_
 ·exact ⟨trivial,fun _ _ _ he ⟨c,u,a,p,e,h⟩=>⟨c,u,a,p,e,h.ext he⟩,trivial,fun _ _ _ he ⟨x,y,e,h⟩=>⟨x,y,e,h.ext he⟩,monoBoxC _ _ _,monoBoxC _ _ _,trivial⟩
 refine wpM_q (.agg #[.slice ca sc.length cc,.slice ua su.length uc,.slice aa sa.length ac,.slice pa sp.length pc]) rfl (fun w' hw'=>run_loadM 31 (.tmp 2) rfl b0 0 rfl (blk_ext B_b0.out hw') [.slice ca sc.length cc,.slice ua su.length uc,.slice aa sa.length ac,.slice pa sp.length pc] rfl Tryz.underlying31 (by kernel_rfl)) ?_
 refine wpM_norm (fun K hK=>?_); go_simp; refine hK _ ?_; clear hK K
 refine wpM_l _ rfl (fun w' hw' hk=>?_) (fun v12=>?_)
 ·have hg:=(Own_any _ _ _ _ ⟨sc,su,sa,sp⟩ w' (monoSt _ _ _ _ (EW.out.trans hw') HS.out) HSM.out).mono (fun r wx _ h=>(by obtain ⟨c',u',a',p',e,h⟩:=h; exact ⟨c',u',a',p',e,h.low (by have:=hw'.size; omega)⟩ : (fun (r : Value) (wx : World)=>∃ c' u' a' p',r = .agg #[c',u',a',p'] ∧ OwnSt w4_.heap.size wx c' u' a' p' ⟨sc,su,sa,sp⟩) r wx))
  clear hk
  unfold makes
  go_simp
  exact ⟨Ext.refl _,hg⟩
 refine wpM_norm (fun K hK=>?_); go_simp; refine hK _ ?_; clear hK K
 refine wpM_q (.agg #[I gen,.slice xa bl.length xc,.bool busy,I nc,I nt,I nk,I na,I no,I nn,.slice la pl.length lc,I se,I sn]) rfl (fun w' hw'=>run_loadM 41 (.tmp 3) rfl b1 0 rfl (blk_ext B_b1.out hw') [I gen,.slice xa bl.length xc,.bool busy,I nc,I nt,I nk,I na,I no,I nn,.slice la pl.length lc,I se,I sn] rfl Tryz.underlying41 (by kernel_rfl)) ?_
 refine wpM_norm (fun K hK=>?_); go_simp; refine hK _ ?_; clear hK K
 refine wpM_l _ rfl (fun w' hw' hk=>?_) (fun v14=>?_)
 ·have hg:=(OwnV_any ⟨gen,bl,busy,⟨nc,nt,⟨nk,na,no,nn⟩⟩,pl,⟨se,sn⟩⟩ _ _ w' (HB0.out.ext monoBs (EW.out.trans hw')) (HP0.out.ext (EW.out.trans hw')) HSV.out).mono (fun r wx _ h=>(by obtain ⟨x,y,e,h,_⟩:=h; exact ⟨x,y,e,h.low hw'.size⟩ : (fun (r : Value) (wx : World)=>∃ box' plan',r = .agg (cells12 ⟨gen,bl,busy,⟨nc,nt,⟨nk,na,no,nn⟩⟩,pl,⟨se,sn⟩⟩ box' plan').toArray ∧ OwnSv w4_.heap.size wx box' plan' ⟨gen,bl,busy,⟨nc,nt,⟨nk,na,no,nn⟩⟩,pl,⟨se,sn⟩⟩) r wx))
  clear hk
  unfold makes
  go_simp
  exact ⟨Ext.refl _,hg⟩
 refine wpM_norm (fun K hK=>?_); go_simp; refine hK _ ?_; clear hK K
 refine wpM_l _ rfl (fun w' hw' hk=>?_) (fun v8=>?_)
 ·clear hk
  unfold makes
  go_simp
  exact ⟨(Ext.refl _).alloc _,boxC_new hw'.size⟩
 refine wpM_norm (fun K hK=>?_); go_simp; refine hK _ ?_; clear hK K
 refine wpM_l _ rfl (fun w' hw' hk=>?_) (fun v9=>?_)
 ·clear hk
  unfold makes
  go_simp
  exact ⟨(Ext.refl _).alloc _,boxC_new hw'.size⟩
 refine wpM_norm (fun K hK=>?_); go_simp; refine hK _ ?_; clear hK K
 refine wpM_nil ?_
 intro w5 e5 hF
 obtain ⟨c',u',a',p',rfl,ho⟩ : (fun (r : Value) (wx : World)=>∃ c' u' a' p',r = .agg #[c',u',a',p'] ∧ OwnSt w4_.heap.size wx c' u' a' p' ⟨sc,su,sa,sp⟩) v12 w5:=hF 12
 obtain ⟨box',plan',rfl,hov⟩ : (fun (r : Value) (wx : World)=>∃ box' plan',r = .agg (cells12 ⟨gen,bl,busy,⟨nc,nt,⟨nk,na,no,nn⟩⟩,pl,⟨se,sn⟩⟩ box' plan').toArray ∧ OwnSv w4_.heap.size wx box' plan' ⟨gen,bl,busy,⟨nc,nt,⟨nk,na,no,nn⟩⟩,pl,⟨se,sn⟩⟩) v14 w5:=hF 14
 obtain ⟨b8,rfl,hb8,hB8⟩ : BoxC w4_.heap.size 31 #[.slice none 0 0,.slice none 0 0,.slice none 0 0,.slice none 0 0] v8 w5:=hF 8
 obtain ⟨b9,rfl,hb9,hB9⟩ : BoxC w4_.heap.size 41 #[I 0,.slice none 0 0,.bool false,I 0,I 0,I 0,I 0,I 0,I 0,.slice none 0 0,I 0,I 0] v9 w5:=hF 9
 clear hF
 have hne : b8 ≠ b9:=fun e=>by
  rw [e,hB9] at hB8
  simp at hB8
 obtain ⟨B,HBB⟩ : ∃ B : Nat → Prop,Hid (∀ k,B k ↔ (w.heap.size + 4 ≤ k ∧ k ≠ b8 ∧ k ≠ b9)):=⟨_,fun _=>Iff.rfl⟩
 obtain ⟨s1,s2,s3,s4⟩:=ho.rd_in (B:=B) fun g hg ht=>(HBB.out g).2 ⟨by have:=SZ4.out; omega,fun e=>by subst e; have q:=ht _ _ hB8; revert q; decide,fun e=>by subst e; have q:=ht _ _ hB9; revert q; decide⟩
 obtain ⟨r1,r2⟩:=hov.rd (B:=B) fun g hg ht=>(HBB.out g).2 ⟨by have:=SZ4.out; omega,fun e=>by subst e; have q:=ht _ _ hB8; revert q; decide,fun e=>by subst e; have q:=ht _ _ hB9; revert q; decide⟩
 obtain ⟨ca',cc',rfl⟩:=row_slice s1.out
 obtain ⟨ua',uc',rfl⟩:=row_slice s2.out
 obtain ⟨aa',ac',rfl⟩:=rowOf_slice s3.out
 obtain ⟨pa',pc',rfl⟩:=rowOf_slice s4.out
 simp only [] at *
 obtain ⟨xa',xc',rfl⟩:=rowOf_slice r1.out
 obtain ⟨la',lc',rfl⟩:=row_slice r2.out
 have R0:=Lib.hid ((st_rd (s:=⟨sc,su,sa,sp⟩) s1 s2 s3 s4).and (r1.and r2))
 have NE:=Lib.hid hne
 clear ho hov s1 s2 s3 s4 r1 r2 hne HS HB0 HP0
 replace B_b0:=zbx B_b0 e5
 replace B_b1:=zbx B_b1 e5
 replace B_b2:=zbx B_b2 e5
 replace B_b3:=zbx B_b3 e5
 replace EW:=Lib.hid (EW.out.trans e5)
 clear e5
 have D_b0_b8 : Hid (b0 < b8):=by unfold Hid; have q:=A_b0.out; have q2:=SZ4.out; omega
 have D_b0_b9 : Hid (b0 < b9):=by unfold Hid; have q:=A_b0.out; have q2:=SZ4.out; omega
 have D_b1_b8 : Hid (b1 < b8):=by unfold Hid; have q:=A_b1.out; have q2:=SZ4.out; omega
 have D_b1_b9 : Hid (b1 < b9):=by unfold Hid; have q:=A_b1.out; have q2:=SZ4.out; omega
 have D_b2_b8 : Hid (b2 < b8):=by unfold Hid; have q:=A_b2.out; have q2:=SZ4.out; omega
 have D_b2_b9 : Hid (b2 < b9):=by unfold Hid; have q:=A_b2.out; have q2:=SZ4.out; omega
 have D_b3_b8 : Hid (b3 < b8):=by unfold Hid; have q:=A_b3.out; have q2:=SZ4.out; omega
 have D_b3_b9 : Hid (b3 < b9):=by unfold Hid; have q:=A_b3.out; have q2:=SZ4.out; omega
 have B_b8:=Lib.hid hB8
 have B_b9:=Lib.hid hB9
 have O_b8 : Hid (w.heap.size ≤ b8):=by unfold Hid; have q2:=SZ4.out; omega
 have O_b9 : Hid (w.heap.size ≤ b9):=by unfold Hid; have q2:=SZ4.out; omega
 clear hB8 hB9 hb8 hb9
 have N_b0 : Hid (¬ B b0):=fun h=>by have q:=((HBB.out _).1 h).1; have q2:=A_b0.out; omega
 have N_b1 : Hid (¬ B b1):=fun h=>by have q:=((HBB.out _).1 h).1; have q2:=A_b1.out; omega
 have N_b2 : Hid (¬ B b2):=fun h=>by have q:=((HBB.out _).1 h).1; have q2:=A_b2.out; omega
 have N_b3 : Hid (¬ B b3):=fun h=>by have q:=((HBB.out _).1 h).1; have q2:=A_b3.out; omega
 have N_b8 : Hid (¬ B b8):=fun h=>((HBB.out _).1 h).2.1 rfl
 have N_b9 : Hid (¬ B b9):=fun h=>((HBB.out _).1 h).2.2 rfl
 refine zss ?_
 unfold Hid
 refine wpList_storeW rfl 31 (.tmp 8) (.tmp 12) rfl b8 rfl [.slice ca' sc.length cc',.slice ua' su.length uc',.slice aa' sa.length ac',.slice pa' sp.length pc'] (rfl) B_b8 rfl (by kernel_rfl) rfl (fun w5_ M5=>?_)
 replace B_b0:=zwl M5 B_b0 D_b0_b8
 replace B_b1:=zwl M5 B_b1 D_b1_b8
 replace B_b2:=zwl M5 B_b2 D_b2_b8
 replace B_b3:=zwl M5 B_b3 D_b3_b8
 replace B_b8:=zwb M5
 replace B_b9:=Lib.hid (M5.out.old B_b9.out (Ne.symm NE.out))
 replace R0:=zwr M5 R0 N_b8
 replace EW:=zwe M5 EW O_b8
 go_wp2_with ((with_reducible refine zst (L:=[44,41,31,100]) ?_ ?_); exact rfl)
 unfold Hid
 refine wpList_storeW rfl 41 (.tmp 9) (.tmp 14) rfl b9 rfl [I gen,.slice xa' bl.length xc',.bool busy,I nc,I nt,I nk,I na,I no,I nn,.slice la' pl.length lc',I se,I sn] (rfl) B_b9 rfl (by kernel_rfl) rfl (fun w6_ M6=>?_)
 replace B_b0:=zwl M6 B_b0 D_b0_b9
 replace B_b1:=zwl M6 B_b1 D_b1_b9
 replace B_b2:=zwl M6 B_b2 D_b2_b9
 replace B_b3:=zwl M6 B_b3 D_b3_b9
 replace B_b8:=Lib.hid (M6.out.old B_b8.out NE.out)
 replace B_b9:=zwb M6
 replace R0:=zwr M6 R0 N_b9
 replace EW:=zwe M6 EW O_b9
 have SZ8 : Hid (b8 < w6_.heap.size ∧ b9 < w6_.heap.size):=⟨(Array.getElem?_eq_some_iff.1 B_b8.out).1,(Array.getElem?_eq_some_iff.1 B_b9.out).1⟩
 have c2:=cell_of (i:=2) B_b1.out rfl
 cases busy
 case false =>
  have HW:=Lib.hid (HWO.out rfl)
  clear HWO
  by_cases hbl : bl.length = 0
  case pos =>
   have hbi : ((bl.length : Int) == 0) = true:=by simp [hbl]
   have HBL:=Lib.hid (List.eq_nil_of_length_eq_zero hbl)
   clear hbl
   have c1:=cell_of (i:=1) B_b1.out rfl
   go_wp2_with fail
   clear c2 c1 hbi
   refine held_drew (S:=fun w'=>w'.heap[b8]? = some (.cells #[.slice ca' sc.length cc',.slice ua' su.length uc',.slice aa' sa.length ac',.slice pa' sp.length pc'] 31 (0,0)) ∧ w'.heap[b9]? = some (.cells #[I gen,.slice xa' bl.length xc',.bool false,I nc,I nt,I nk,I na,I no,I nn,.slice la' pl.length lc',I se,I sn] 41 (0,0))) (by kernel_rfl) (fun wd ed _=>?_)
   replace B_b0:=zbx B_b0 ed
   replace B_b1:=zbx B_b1 ed
   replace B_b2:=zbx B_b2 ed
   replace B_b3:=zbx B_b3 ed
   replace B_b8:=zbx B_b8 ed
   replace B_b9:=zbx B_b9 ed
   replace R0:=zrx R0 ed
   replace EW:=Lib.hid (EW.out.trans ed)
   have HSS : Hid (wd.heap[b8]? = some (.cells #[.slice ca' sc.length cc',.slice ua' su.length uc',.slice aa' sa.length ac',.slice pa' sp.length pc'] 31 (0,0)) ∧ wd.heap[b9]? = some (.cells #[I gen,.slice xa' bl.length xc',.bool false,I nc,I nt,I nk,I na,I no,I nn,.slice la' pl.length lc',I se,I sn] 41 (0,0))):=⟨B_b8.out,B_b9.out⟩
   refine held_loadW 0 rfl (by kernel_rfl) (by kernel_rfl) (by kernel_rfl) (fun _ _ _ _ h=>h) rfl 31 (.tmp 8) rfl b8 rfl (fun w' hS=>hS.1) Tryz.underlying31 (by kernel_rfl) HSS ?_
   refine held_norm (fun K hK=>?_); go_simp; refine hK _ ?_; clear hK K
   refine held_loadW 1 rfl (by kernel_rfl) (by kernel_rfl) (by kernel_rfl) (fun _ _ _ _ h=>h) rfl 41 (.tmp 9) rfl b9 rfl (fun w' hS=>hS.2) Tryz.underlying41 (by kernel_rfl) HSS ?_
   refine held_norm (fun K hK=>?_); go_simp; refine hK _ ?_; clear hK K
   refine held_storeW 2 (by kernel_rfl) rfl rfl 31 (.tmp 4) (.tmp 61) rfl b2 rfl [.slice ca' sc.length cc',.slice ua' su.length uc',.slice aa' sa.length ac',.slice pa' sp.length pc'] (rfl) B_b2 rfl (by kernel_rfl) rfl (fun w7_ M7=>⟨?_,?_⟩)
   ·exact ⟨M7.out.old B_b8.out (Nat.ne_of_gt D_b2_b8.out),M7.out.old B_b9.out (Nat.ne_of_gt D_b2_b9.out)⟩
   replace B_b0:=zwl M7 B_b0 D_b0_b2
   replace B_b1:=zwl M7 B_b1 D_b1_b2
   replace B_b2:=zwb M7
   replace B_b3:=zwg M7 B_b3 D_b2_b3
   replace B_b8:=zwg M7 B_b8 D_b2_b8
   replace B_b9:=zwg M7 B_b9 D_b2_b9
   replace R0:=zwr M7 R0 N_b2
   replace EW:=zwe M7 EW O_b2
   clear HSS
   have HSS : Hid (w7_.heap[b8]? = some (.cells #[.slice ca' sc.length cc',.slice ua' su.length uc',.slice aa' sa.length ac',.slice pa' sp.length pc'] 31 (0,0)) ∧ w7_.heap[b9]? = some (.cells #[I gen,.slice xa' bl.length xc',.bool false,I nc,I nt,I nk,I na,I no,I nn,.slice la' pl.length lc',I se,I sn] 41 (0,0))):=⟨B_b8.out,B_b9.out⟩
   refine held_norm (fun K hK=>?_); go_simp; refine hK _ ?_; clear hK K
   refine held_storeW 3 (by kernel_rfl) rfl rfl 41 (.tmp 5) (.tmp 62) rfl b3 rfl [I gen,.slice xa' bl.length xc',.bool false,I nc,I nt,I nk,I na,I no,I nn,.slice la' pl.length lc',I se,I sn] (rfl) B_b3 rfl (by kernel_rfl) rfl (fun w8_ M8=>⟨?_,?_⟩)
   ·exact ⟨M8.out.old B_b8.out (Nat.ne_of_gt D_b3_b8.out),M8.out.old B_b9.out (Nat.ne_of_gt D_b3_b9.out)⟩
   replace B_b0:=zwl M8 B_b0 D_b0_b3
   replace B_b1:=zwl M8 B_b1 D_b1_b3
   replace B_b2:=zwl M8 B_b2 D_b2_b3
   replace B_b3:=zwb M8
   replace B_b8:=zwg M8 B_b8 D_b3_b8
   replace B_b9:=zwg M8 B_b9 D_b3_b9
   replace R0:=zwr M8 R0 N_b3
   replace EW:=zwe M8 EW O_b3
   clear HSS
   have HSS : Hid (w8_.heap[b8]? = some (.cells #[.slice ca' sc.length cc',.slice ua' su.length uc',.slice aa' sa.length ac',.slice pa' sp.length pc'] 31 (0,0)) ∧ w8_.heap[b9]? = some (.cells #[I gen,.slice xa' bl.length xc',.bool false,I nc,I nt,I nk,I na,I no,I nn,.slice la' pl.length lc',I se,I sn] 41 (0,0))):=⟨B_b8.out,B_b9.out⟩
   refine held_norm (fun K hK=>?_); go_simp; refine hK _ ?_; clear hK K
   refine held_value 4 (by kernel_rfl) rfl rfl _ rfl HSS.out ?_
   refine held_norm (fun K hK=>?_); go_simp; refine hK _ ?_; clear hK K
   refine held_value 5 (by kernel_rfl) rfl rfl _ rfl HSS.out ?_
   refine held_norm (fun K hK=>?_); go_simp; refine hK _ ?_; clear hK K
   refine wpAnyH_done (by kernel_rfl) ?_ _
   clear HSS
   go_wp2
   have z0:=run_box (P:=Tryz.prog) 31 B_b2.out Tryz.underlying31 (by kernel_rfl)
   have z1:=run_box (P:=Tryz.prog) 41 B_b3.out Tryz.underlying41 (by kernel_rfl)
   refine bodyPost_ret (by simp [results,Tryz.results12,asAddr,z0,z1]; rfl) rfl ?_
   have hX : serveM ⟨sc,su,sa,sp⟩ ⟨gen,bl,false,⟨nc,nt,⟨nk,na,no,nn⟩⟩,pl,⟨se,sn⟩⟩ = (⟨sc,su,sa,sp⟩,⟨gen,bl,false,⟨nc,nt,⟨nk,na,no,nn⟩⟩,pl,⟨se,sn⟩⟩,[],12):=by rw [HBL.out]; rfl
   have ht:=HT.out
   rw [hX] at ht
   exact ⟨_,rfl,EW.out,ht _ _ _ (Rd.widen (A:=B) (tup4_rd (R0.out.left) (sv_rd (v:=⟨gen,bl,false,⟨nc,nt,⟨nk,na,no,nn⟩⟩,pl,⟨se,sn⟩⟩) R0.out.right.left R0.out.right.right) (Rd.all fun w=>bytes_nil w)) (fun k _ h=>.inr (by have q:=((HBB.out k).1 h).1; omega)))⟩
  have hbi : ((bl.length : Int) == 0) = false:=by simpa using hbl
  obtain ⟨b,l,hbc⟩ : ∃ b l,bl = b :: l:=by
   cases hq : bl with
   | nil=>rw [hq] at hbl; exact absurd rfl hbl
   | cons b l=>exact ⟨b,l,rfl⟩
  have HBL:=Lib.hid hbc
  clear hbc hbl
  have c1:=cell_of (i:=1) B_b1.out rfl
  go_wp2_with ((with_reducible refine zst (L:=[44,41,31,100]) ?_ ?_); exact rfl)
  unfold Hid
  clear c2 c1 hbi
  refine wpList_loadW rfl 31 (.tmp 8) rfl b8 rfl B_b8 Tryz.underlying31 (by kernel_rfl) (fun v64 H_v64=>?_)
  go_wp2_with ((with_reducible refine zst (L:=[44,41,31,100]) ?_ ?_); exact rfl)
  unfold Hid
  refine wpList_loadW rfl 41 (.tmp 9) rfl b9 rfl B_b9 Tryz.underlying41 (by kernel_rfl) (fun v65 H_v65=>?_)
  go_wp2_with fail
  rw [H_v64.out,H_v65.out]
  clear H_v64 H_v65
  replace SZ8 : Hid (b8 < w6_.heap.size ∧ b9 < w6_.heap.size):=⟨(Array.getElem?_eq_some_iff.1 B_b8.out).1,(Array.getElem?_eq_some_iff.1 B_b9.out).1⟩
  refine (take_keeps sc su sa sp gen nc nt nk na no nn se sn b l pl _ _ _ _ _ _ w6_ B (R0.out.left) (R0.out.right.left.imp fun w h=>by rw [← HBL.out]; exact h) R0.out.right.right HW.out).to fun r w9 e9 hr=>?_
  rw [← HBL.out] at hr
  obtain ⟨v2,hv2⟩ : ∃ v2,(serveM ⟨sc,su,sa,sp⟩ ⟨gen,bl,false,⟨nc,nt,⟨nk,na,no,nn⟩⟩,pl,⟨se,sn⟩⟩).2.1 = v2:=⟨_,rfl⟩
  obtain ⟨y2,hy2⟩ : ∃ y2,(serveM ⟨sc,su,sa,sp⟩ ⟨gen,bl,false,⟨nc,nt,⟨nk,na,no,nn⟩⟩,pl,⟨se,sn⟩⟩).2.2.1 = y2:=⟨_,rfl⟩
  rw [hv2,hy2] at hr
  have HV2:=Lib.hid hv2
  have HY2:=Lib.hid hy2
  obtain ⟨ds,bv,rfl,hds,hbv⟩:=rd_tupB hr
  obtain ⟨box2,plan2,rfl,r5,r6⟩:=rd_sv hds
  obtain ⟨xa2,xc2,rfl⟩:=rowOf_slice r5.out
  obtain ⟨la2,lc2,rfl⟩:=row_slice r6.out
  obtain ⟨ya,yc,rfl⟩:=row_slice hbv.out
  have hin : ∀ k,k < w9.heap.size → (B k ∨ w6_.heap.size ≤ k) → B k:=fun k _ h=>by
   rcases h with h | h
   ·exact h
   ·refine (HBB.out k).2 ⟨?_,?_,?_⟩
    ·have q:=SZ8.out.1; have q2:=D_b3_b8.out; have q3:=A_b3.out; omega
    ·have q:=SZ8.out.1; omega
    ·have q:=SZ8.out.2; omega
  have R5:=Lib.hid ((hds.and hbv).widen hin)
  clear hv2 hy2 hr hds hbv r5 r6 hin
  replace B_b0:=zbx B_b0 e9
  replace B_b1:=zbx B_b1 e9
  replace B_b2:=zbx B_b2 e9
  replace B_b3:=zbx B_b3 e9
  replace B_b8:=zbx B_b8 e9
  replace B_b9:=zbx B_b9 e9
  replace R0:=zrx R0 e9
  replace EW:=Lib.hid (EW.out.trans e9)
  clear e9
  go_wp2_with ((with_reducible refine zst (L:=[44,41,31,100]) ?_ ?_); exact rfl)
  unfold Hid
  refine wpList_storeW rfl 41 (.tmp 9) (.tmp 67) rfl b9 rfl [I v2.gen,.slice xa2 v2.box.length xc2,.bool v2.busy,I v2.now.client,I v2.now.token,I v2.now.call.kind,I v2.now.call.name,I v2.now.call.other,I v2.now.call.n,.slice la2 v2.plan.length lc2,I v2.says.err,I v2.says.n] (rfl) B_b9 rfl (by kernel_rfl) rfl (fun w7_ M7=>?_)
  replace B_b0:=zwl M7 B_b0 D_b0_b9
  replace B_b1:=zwl M7 B_b1 D_b1_b9
  replace B_b2:=zwl M7 B_b2 D_b2_b9
  replace B_b3:=zwl M7 B_b3 D_b3_b9
  replace B_b8:=Lib.hid (M7.out.old B_b8.out NE.out)
  replace B_b9:=zwb M7
  replace R0:=zwr M7 R0 N_b9
  replace R5:=zwr M7 R5 N_b9
  replace EW:=zwe M7 EW O_b9
  go_wp2_with fail
  refine held_drew (S:=fun w'=>w'.heap[b8]? = some (.cells #[.slice ca' sc.length cc',.slice ua' su.length uc',.slice aa' sa.length ac',.slice pa' sp.length pc'] 31 (0,0)) ∧ w'.heap[b9]? = some (.cells #[I v2.gen,.slice xa2 v2.box.length xc2,.bool v2.busy,I v2.now.client,I v2.now.token,I v2.now.call.kind,I v2.now.call.name,I v2.now.call.other,I v2.now.call.n,.slice la2 v2.plan.length lc2,I v2.says.err,I v2.says.n] 41 (0,0))) (by kernel_rfl) (fun wd ed _=>?_)
  replace B_b0:=zbx B_b0 ed
  replace B_b1:=zbx B_b1 ed
  replace B_b2:=zbx B_b2 ed
  replace B_b3:=zbx B_b3 ed
  replace B_b8:=zbx B_b8 ed
  replace B_b9:=zbx B_b9 ed
  replace R0:=zrx R0 ed
  replace R5:=zrx R5 ed
  replace EW:=Lib.hid (EW.out.trans ed)
  have HSS : Hid (wd.heap[b8]? = some (.cells #[.slice ca' sc.length cc',.slice ua' su.length uc',.slice aa' sa.length ac',.slice pa' sp.length pc'] 31 (0,0)) ∧ wd.heap[b9]? = some (.cells #[I v2.gen,.slice xa2 v2.box.length xc2,.bool v2.busy,I v2.now.client,I v2.now.token,I v2.now.call.kind,I v2.now.call.name,I v2.now.call.other,I v2.now.call.n,.slice la2 v2.plan.length lc2,I v2.says.err,I v2.says.n] 41 (0,0))):=⟨B_b8.out,B_b9.out⟩
  refine held_loadW 0 rfl (by kernel_rfl) (by kernel_rfl) (by kernel_rfl) (fun _ _ _ _ h=>h) rfl 31 (.tmp 8) rfl b8 rfl (fun w' hS=>hS.1) Tryz.underlying31 (by kernel_rfl) HSS ?_
  refine held_norm (fun K hK=>?_); go_simp; refine hK _ ?_; clear hK K
  refine held_loadW 1 rfl (by kernel_rfl) (by kernel_rfl) (by kernel_rfl) (fun _ _ _ _ h=>h) rfl 41 (.tmp 9) rfl b9 rfl (fun w' hS=>hS.2) Tryz.underlying41 (by kernel_rfl) HSS ?_
  refine held_norm (fun K hK=>?_); go_simp; refine hK _ ?_; clear hK K
  refine held_pure 2 rfl (by kernel_rfl) (by kernel_rfl) (by kernel_rfl) (fun _ _ _ _ h=>h) rfl HSS.out (fun K hK=>?_); go_simp; refine hK _ ?_; clear hK K
  refine held_storeW 3 (by kernel_rfl) rfl rfl 31 (.tmp 4) (.tmp 69) rfl b2 rfl [.slice ca' sc.length cc',.slice ua' su.length uc',.slice aa' sa.length ac',.slice pa' sp.length pc'] (rfl) B_b2 rfl (by kernel_rfl) rfl (fun w8_ M8=>⟨?_,?_⟩)
  ·exact ⟨M8.out.old B_b8.out (Nat.ne_of_gt D_b2_b8.out),M8.out.old B_b9.out (Nat.ne_of_gt D_b2_b9.out)⟩
  replace B_b0:=zwl M8 B_b0 D_b0_b2
  replace B_b1:=zwl M8 B_b1 D_b1_b2
  replace B_b2:=zwb M8
  replace B_b3:=zwg M8 B_b3 D_b2_b3
  replace B_b8:=zwg M8 B_b8 D_b2_b8
  replace B_b9:=zwg M8 B_b9 D_b2_b9
  replace R0:=zwr M8 R0 N_b2
  replace R5:=zwr M8 R5 N_b2
  replace EW:=zwe M8 EW O_b2
  clear HSS
  have HSS : Hid (w8_.heap[b8]? = some (.cells #[.slice ca' sc.length cc',.slice ua' su.length uc',.slice aa' sa.length ac',.slice pa' sp.length pc'] 31 (0,0)) ∧ w8_.heap[b9]? = some (.cells #[I v2.gen,.slice xa2 v2.box.length xc2,.bool v2.busy,I v2.now.client,I v2.now.token,I v2.now.call.kind,I v2.now.call.name,I v2.now.call.other,I v2.now.call.n,.slice la2 v2.plan.length lc2,I v2.says.err,I v2.says.n] 41 (0,0))):=⟨B_b8.out,B_b9.out⟩
  refine held_norm (fun K hK=>?_); go_simp; refine hK _ ?_; clear hK K
  refine held_storeW 4 (by kernel_rfl) rfl rfl 41 (.tmp 5) (.tmp 70) rfl b3 rfl [I v2.gen,.slice xa2 v2.box.length xc2,.bool v2.busy,I v2.now.client,I v2.now.token,I v2.now.call.kind,I v2.now.call.name,I v2.now.call.other,I v2.now.call.n,.slice la2 v2.plan.length lc2,I v2.says.err,I v2.says.n] (rfl) B_b3 rfl (by kernel_rfl) rfl (fun w9_ M9=>⟨?_,?_⟩)
  ·exact ⟨M9.out.old B_b8.out (Nat.ne_of_gt D_b3_b8.out),M9.out.old B_b9.out (Nat.ne_of_gt D_b3_b9.out)⟩
  replace B_b0:=zwl M9 B_b0 D_b0_b3
  replace B_b1:=zwl M9 B_b1 D_b1_b3
  replace B_b2:=zwl M9 B_b2 D_b2_b3
  replace B_b3:=zwb M9
  replace B_b8:=zwg M9 B_b8 D_b3_b8
  replace B_b9:=zwg M9 B_b9 D_b3_b9
  replace R0:=zwr M9 R0 N_b3
  replace R5:=zwr M9 R5 N_b3
  replace EW:=zwe M9 EW O_b3
  clear HSS
  have HSS : Hid (w9_.heap[b8]? = some (.cells #[.slice ca' sc.length cc',.slice ua' su.length uc',.slice aa' sa.length ac',.slice pa' sp.length pc'] 31 (0,0)) ∧ w9_.heap[b9]? = some (.cells #[I v2.gen,.slice xa2 v2.box.length xc2,.bool v2.busy,I v2.now.client,I v2.now.token,I v2.now.call.kind,I v2.now.call.name,I v2.now.call.other,I v2.now.call.n,.slice la2 v2.plan.length lc2,I v2.says.err,I v2.says.n] 41 (0,0))):=⟨B_b8.out,B_b9.out⟩
  refine held_norm (fun K hK=>?_); go_simp; refine hK _ ?_; clear hK K
  refine held_value 5 (by kernel_rfl) rfl rfl _ rfl HSS.out ?_
  refine held_norm (fun K hK=>?_); go_simp; refine hK _ ?_; clear hK K
  refine held_value 6 (by kernel_rfl) rfl rfl _ rfl HSS.out ?_
  refine held_norm (fun K hK=>?_); go_simp; refine hK _ ?_; clear hK K
  refine wpAnyH_done (by kernel_rfl) ?_ _
  clear HSS
  go_wp2
  have z0:=run_box (P:=Tryz.prog) 31 B_b2.out Tryz.underlying31 (by kernel_rfl)
  have z1:=run_box (P:=Tryz.prog) 41 B_b3.out Tryz.underlying41 (by kernel_rfl)
  refine bodyPost_ret (by simp [results,Tryz.results12,asAddr,z0,z1]; rfl) rfl ?_
  have hX : serveM ⟨sc,su,sa,sp⟩ ⟨gen,bl,false,⟨nc,nt,⟨nk,na,no,nn⟩⟩,pl,⟨se,sn⟩⟩ = (⟨sc,su,sa,sp⟩,v2,y2,0):=by
   obtain ⟨q1,q2⟩:=serve_take ⟨sc,su,sa,sp⟩ ⟨gen,bl,false,⟨nc,nt,⟨nk,na,no,nn⟩⟩,pl,⟨se,sn⟩⟩ rfl HBL.out
   rw [← HV2.out,← HY2.out]
   exact Prod.ext q1 (Prod.ext rfl (Prod.ext rfl q2))
  have ht:=HT.out
  rw [hX] at ht
  exact ⟨_,rfl,EW.out,ht _ _ _ (Rd.widen (A:=B) (tup4_rd (R0.out.left) (R5.out.left) (R5.out.right)) (fun k _ h=>.inr (by have q:=((HBB.out k).1 h).1; omega)))⟩
 clear HWO
 by_cases hpl : pl.length = 0
 case pos =>
  have hpi : (pl.length : Int) = 0:=by omega
  have HPL:=Lib.hid (List.eq_nil_of_length_eq_zero hpl)
  clear hpl
  have c9:=cell_of (i:=9) B_b1.out rfl
  go_wp2_with ((with_reducible refine zst (L:=[44,41,31,100]) ?_ ?_); exact rfl)
  unfold Hid
  clear c2 c9
  refine wpList_loadW rfl 31 (.tmp 8) rfl b8 rfl B_b8 Tryz.underlying31 (by kernel_rfl) (fun v39 H_v39=>?_)
  have e3:=cell_of (i:=3) B_b1.out rfl
  have e4:=cell_of (i:=4) B_b1.out rfl
  have e5:=cell_of (i:=5) B_b1.out rfl
  have e6:=cell_of (i:=6) B_b1.out rfl
  have e7:=cell_of (i:=7) B_b1.out rfl
  have e8:=cell_of (i:=8) B_b1.out rfl
  have e10:=cell_of (i:=10) B_b1.out rfl
  have e11:=cell_of (i:=11) B_b1.out rfl
  go_wp2_with fail
  clear e3 e4 e5 e6 e7 e8 e10 e11
  rw [H_v39.out]
  clear H_v39
  refine (Commit_any _ _ _ _ ⟨sc,su,sa,sp⟩ nc nt nk na no nn se sn w6_ (R0.out.left).out HSM.out).to fun r w9 e9 hr=>?_
  obtain ⟨sn2,hsn⟩ : ∃ s2,commitSt ⟨sc,su,sa,sp⟩ ⟨nc,nt,⟨nk,na,no,nn⟩⟩ ⟨se,sn⟩ = s2:=⟨_,rfl⟩
  rw [hsn] at hr
  have HSN:=Lib.hid hsn
  obtain ⟨cs,rfl,hcs⟩:=rd_agg hr
  obtain ⟨c2,u2,a2,p2,rfl,r1,r2,r3,r4⟩:=rd_st hcs
  obtain ⟨ca2,cc2,rfl⟩:=row_slice r1.out
  obtain ⟨ua2,uc2,rfl⟩:=row_slice r2.out
  obtain ⟨aa2,ac2,rfl⟩:=rowOf_slice r3.out
  obtain ⟨pa2,pc2,rfl⟩:=rowOf_slice r4.out
  have SZ9 : Hid (b8 < w6_.heap.size ∧ b9 < w6_.heap.size):=⟨(Array.getElem?_eq_some_iff.1 B_b8.out).1,(Array.getElem?_eq_some_iff.1 B_b9.out).1⟩
  have hin : ∀ k,k < w9.heap.size → (False ∨ w6_.heap.size ≤ k) → B k:=fun k _ h=>by
   rcases h with h | h
   ·exact h.elim
   ·refine (HBB.out k).2 ⟨?_,?_,?_⟩
    ·have q:=SZ9.out.1; have q2:=D_b3_b8.out; have q3:=A_b3.out; omega
    ·have q:=SZ9.out.1; omega
    ·have q:=SZ9.out.2; omega
  have R1:=Lib.hid (hcs.widen hin)
  clear hsn hr hcs r1 r2 r3 r4 hin SZ9
  replace B_b0:=zbx B_b0 e9
  replace B_b1:=zbx B_b1 e9
  replace B_b2:=zbx B_b2 e9
  replace B_b3:=zbx B_b3 e9
  replace B_b8:=zbx B_b8 e9
  replace B_b9:=zbx B_b9 e9
  replace R0:=zrx R0 e9
  replace EW:=Lib.hid (EW.out.trans e9)
  clear e9
  go_wp2_with ((with_reducible refine zst (L:=[44,41,31,100]) ?_ ?_); exact rfl)
  unfold Hid
  refine wpList_storeW rfl 31 (.tmp 8) (.tmp 44) rfl b8 rfl [.slice ca2 sn2.cells.length cc2,.slice ua2 sn2.undo.length uc2,.slice aa2 sn2.answers.length ac2,.slice pa2 sn2.past.length pc2] (rfl) B_b8 rfl (by kernel_rfl) rfl (fun w7_ M7=>?_)
  replace B_b0:=zwl M7 B_b0 D_b0_b8
  replace B_b1:=zwl M7 B_b1 D_b1_b8
  replace B_b2:=zwl M7 B_b2 D_b2_b8
  replace B_b3:=zwl M7 B_b3 D_b3_b8
  replace B_b8:=zwb M7
  replace B_b9:=Lib.hid (M7.out.old B_b9.out (Ne.symm NE.out))
  replace R1:=zwr M7 R1 N_b8
  replace R0:=zwr M7 R0 N_b8
  replace EW:=zwe M7 EW O_b8
  go_wp2_with fail
  refine held_drew (S:=fun w'=>w'.heap[b1]? = some (.cells #[I gen,.slice xa bl.length xc,.bool true,I nc,I nt,I nk,I na,I no,I nn,.slice la pl.length lc,I se,I sn] 41 (0,0)) ∧ w'.heap[b8]? = some (.cells #[.slice ca2 sn2.cells.length cc2,.slice ua2 sn2.undo.length uc2,.slice aa2 sn2.answers.length ac2,.slice pa2 sn2.past.length pc2] 31 (0,0)) ∧ w'.heap[b9]? = some (.cells #[I gen,.slice xa' bl.length xc',.bool true,I nc,I nt,I nk,I na,I no,I nn,.slice la' pl.length lc',I se,I sn] 41 (0,0))) (by kernel_rfl) (fun wd ed _=>?_)
  replace B_b0:=zbx B_b0 ed
  replace B_b1:=zbx B_b1 ed
  replace B_b2:=zbx B_b2 ed
  replace B_b3:=zbx B_b3 ed
  replace B_b8:=zbx B_b8 ed
  replace B_b9:=zbx B_b9 ed
  replace R1:=zrx R1 ed
  replace R0:=zrx R0 ed
  replace EW:=Lib.hid (EW.out.trans ed)
  have HSS : Hid (wd.heap[b1]? = some (.cells #[I gen,.slice xa bl.length xc,.bool true,I nc,I nt,I nk,I na,I no,I nn,.slice la pl.length lc,I se,I sn] 41 (0,0)) ∧ wd.heap[b8]? = some (.cells #[.slice ca2 sn2.cells.length cc2,.slice ua2 sn2.undo.length uc2,.slice aa2 sn2.answers.length ac2,.slice pa2 sn2.past.length pc2] 31 (0,0)) ∧ wd.heap[b9]? = some (.cells #[I gen,.slice xa' bl.length xc',.bool true,I nc,I nt,I nk,I na,I no,I nn,.slice la' pl.length lc',I se,I sn] 41 (0,0))):=⟨B_b1.out,B_b8.out,B_b9.out⟩
  refine held_loadW 0 rfl (by kernel_rfl) (by kernel_rfl) (by kernel_rfl) (fun _ _ _ _ h=>h) rfl 31 (.tmp 8) rfl b8 rfl (fun w' hS=>hS.2.1) Tryz.underlying31 (by kernel_rfl) HSS ?_
  refine held_norm (fun K hK=>?_); go_simp; refine hK _ ?_; clear hK K
  refine held_pure 1 rfl (by kernel_rfl) (by kernel_rfl) (by kernel_rfl) (fun _ _ _ _ h=>h) rfl HSS.out (fun K hK=>?_); go_simp; refine hK _ ?_; clear hK K
  refine held_take 2 rfl (by kernel_rfl) (by kernel_rfl) (by kernel_rfl) (fun _ _ _ _ h=>h) (I gen) rfl (fun w' hS=>by have q0:=cell_of (i:=0) hS.1 rfl; go_simp) HSS.out ?_
  refine held_norm (fun K hK=>?_); go_simp; refine hK _ ?_; clear hK K
  refine held_pure 3 rfl (by kernel_rfl) (by kernel_rfl) (by kernel_rfl) (fun _ _ _ _ h=>h) rfl HSS.out (fun K hK=>?_); go_simp; refine hK _ ?_; clear hK K
  refine held_take 4 rfl (by kernel_rfl) (by kernel_rfl) (by kernel_rfl) (fun _ _ _ _ h=>h) (.slice xa' bl.length xc') rfl (fun w' hS=>by have q0:=cell_of (i:=1) hS.2.2 rfl; go_simp) HSS.out ?_
  refine held_norm (fun K hK=>?_); go_simp; refine hK _ ?_; clear hK K
  refine held_take 5 rfl (by kernel_rfl) (by kernel_rfl) (by kernel_rfl) (fun _ _ _ _ h=>h) (.agg #[I gen,.slice xa' bl.length xc',.bool false,I 0,I 0,I 0,I 0,I 0,I 0,.slice none 0 0,I 0,I 0]) rfl (fun w' hS=>by kernel_rfl) HSS.out ?_
  refine held_norm (fun K hK=>?_); go_simp; refine hK _ ?_; clear hK K
  refine held_loadW 6 rfl (by kernel_rfl) (by kernel_rfl) (by kernel_rfl) (fun _ _ _ _ h=>h) rfl 31 (.tmp 8) rfl b8 rfl (fun w' hS=>hS.2.1) Tryz.underlying31 (by kernel_rfl) HSS ?_
  refine held_norm (fun K hK=>?_); go_simp; refine hK _ ?_; clear hK K
  refine held_pure 7 rfl (by kernel_rfl) (by kernel_rfl) (by kernel_rfl) (fun _ _ _ _ h=>h) rfl HSS.out (fun K hK=>?_); go_simp; refine hK _ ?_; clear hK K
  refine held_pure 8 rfl (by kernel_rfl) (by kernel_rfl) (by kernel_rfl) (fun _ _ _ _ h=>h) rfl HSS.out (fun K hK=>?_); go_simp; refine hK _ ?_; clear hK K
  refine held_take 9 rfl (by kernel_rfl) (by kernel_rfl) (by kernel_rfl) (fun _ _ _ _ h=>h) (I nc) rfl (fun w' hS=>by have q0:=cell_of (i:=3) hS.1 rfl; go_simp) HSS.out ?_
  refine held_norm (fun K hK=>?_); go_simp; refine hK _ ?_; clear hK K
  refine held_call 10 (by kernel_rfl) rfl rfl 32 #[.agg #[.slice ca2 sn2.cells.length cc2,.slice ua2 sn2.undo.length uc2,.slice aa2 sn2.answers.length ac2,.slice pa2 sn2.past.length pc2],I nc] (by go_simp) ?_
  refine (last_keeps _ _ _ _ sn2 nc wd (R1.out).out).to fun v55 w7 e7 hby=>?_
  obtain ⟨ya,yc,rfl⟩:=row_slice hby.out
  have SZ9 : Hid (b8 < wd.heap.size ∧ b9 < wd.heap.size):=⟨(Array.getElem?_eq_some_iff.1 B_b8.out).1,(Array.getElem?_eq_some_iff.1 B_b9.out).1⟩
  have RY:=Lib.hid (hby.widen (B:=B) fun k _ h=>by
   rcases h with h | h
   ·exact h.elim
   ·exact (HBB.out k).2 ⟨by have q:=SZ9.out.1; have q2:=D_b3_b8.out; have q3:=A_b3.out; omega,by have q:=SZ9.out.1; omega,by have q:=SZ9.out.2; omega⟩)
  clear hby SZ9
  replace B_b0:=zbx B_b0 e7
  replace B_b1:=zbx B_b1 e7
  replace B_b2:=zbx B_b2 e7
  replace B_b3:=zbx B_b3 e7
  replace B_b8:=zbx B_b8 e7
  replace B_b9:=zbx B_b9 e7
  replace R1:=zrx R1 e7
  replace R0:=zrx R0 e7
  replace EW:=Lib.hid (EW.out.trans e7)
  clear HSS e7
  refine ⟨_,rfl,⟨B_b1.out,B_b8.out,B_b9.out⟩,?_⟩
  have HSS : Hid (w7.heap[b1]? = some (.cells #[I gen,.slice xa bl.length xc,.bool true,I nc,I nt,I nk,I na,I no,I nn,.slice la pl.length lc,I se,I sn] 41 (0,0)) ∧ w7.heap[b8]? = some (.cells #[.slice ca2 sn2.cells.length cc2,.slice ua2 sn2.undo.length uc2,.slice aa2 sn2.answers.length ac2,.slice pa2 sn2.past.length pc2] 31 (0,0)) ∧ w7.heap[b9]? = some (.cells #[I gen,.slice xa' bl.length xc',.bool true,I nc,I nt,I nk,I na,I no,I nn,.slice la' pl.length lc',I se,I sn] 41 (0,0))):=⟨B_b1.out,B_b8.out,B_b9.out⟩
  refine held_norm (fun K hK=>?_); go_simp; refine hK _ ?_; clear hK K
  refine held_storeW 11 (by kernel_rfl) rfl rfl 31 (.tmp 4) (.tmp 45) rfl b2 rfl [.slice ca2 sn2.cells.length cc2,.slice ua2 sn2.undo.length uc2,.slice aa2 sn2.answers.length ac2,.slice pa2 sn2.past.length pc2] (rfl) B_b2 rfl (by kernel_rfl) rfl (fun w8_ M8=>⟨?_,?_⟩)
  ·exact ⟨M8.out.old B_b1.out (Nat.ne_of_lt D_b1_b2.out),M8.out.old B_b8.out (Nat.ne_of_gt D_b2_b8.out),M8.out.old B_b9.out (Nat.ne_of_gt D_b2_b9.out)⟩
  replace B_b0:=zwl M8 B_b0 D_b0_b2
  replace B_b1:=zwl M8 B_b1 D_b1_b2
  replace B_b2:=zwb M8
  replace B_b3:=zwg M8 B_b3 D_b2_b3
  replace B_b8:=zwg M8 B_b8 D_b2_b8
  replace B_b9:=zwg M8 B_b9 D_b2_b9
  replace R1:=zwr M8 R1 N_b2
  replace R0:=zwr M8 R0 N_b2
  replace RY:=zwr M8 RY N_b2
  replace EW:=zwe M8 EW O_b2
  clear HSS
  have HSS : Hid (w8_.heap[b1]? = some (.cells #[I gen,.slice xa bl.length xc,.bool true,I nc,I nt,I nk,I na,I no,I nn,.slice la pl.length lc,I se,I sn] 41 (0,0)) ∧ w8_.heap[b8]? = some (.cells #[.slice ca2 sn2.cells.length cc2,.slice ua2 sn2.undo.length uc2,.slice aa2 sn2.answers.length ac2,.slice pa2 sn2.past.length pc2] 31 (0,0)) ∧ w8_.heap[b9]? = some (.cells #[I gen,.slice xa' bl.length xc',.bool true,I nc,I nt,I nk,I na,I no,I nn,.slice la' pl.length lc',I se,I sn] 41 (0,0))):=⟨B_b1.out,B_b8.out,B_b9.out⟩
  refine held_norm (fun K hK=>?_); go_simp; refine hK _ ?_; clear hK K
  refine held_storeW 12 (by kernel_rfl) rfl rfl 41 (.tmp 5) (.tmp 50) rfl b3 rfl [I gen,.slice xa' bl.length xc',.bool false,I 0,I 0,I 0,I 0,I 0,I 0,.slice none 0 0,I 0,I 0] (rfl) B_b3 rfl (by kernel_rfl) rfl (fun w9_ M9=>⟨?_,?_⟩)
  ·exact ⟨M9.out.old B_b1.out (Nat.ne_of_lt D_b1_b3.out),M9.out.old B_b8.out (Nat.ne_of_gt D_b3_b8.out),M9.out.old B_b9.out (Nat.ne_of_gt D_b3_b9.out)⟩
  replace B_b0:=zwl M9 B_b0 D_b0_b3
  replace B_b1:=zwl M9 B_b1 D_b1_b3
  replace B_b2:=zwl M9 B_b2 D_b2_b3
  replace B_b3:=zwb M9
  replace B_b8:=zwg M9 B_b8 D_b3_b8
  replace B_b9:=zwg M9 B_b9 D_b3_b9
  replace R1:=zwr M9 R1 N_b3
  replace R0:=zwr M9 R0 N_b3
  replace RY:=zwr M9 RY N_b3
  replace EW:=zwe M9 EW O_b3
  clear HSS
  have HSS : Hid (w9_.heap[b1]? = some (.cells #[I gen,.slice xa bl.length xc,.bool true,I nc,I nt,I nk,I na,I no,I nn,.slice la pl.length lc,I se,I sn] 41 (0,0)) ∧ w9_.heap[b8]? = some (.cells #[.slice ca2 sn2.cells.length cc2,.slice ua2 sn2.undo.length uc2,.slice aa2 sn2.answers.length ac2,.slice pa2 sn2.past.length pc2] 31 (0,0)) ∧ w9_.heap[b9]? = some (.cells #[I gen,.slice xa' bl.length xc',.bool true,I nc,I nt,I nk,I na,I no,I nn,.slice la' pl.length lc',I se,I sn] 41 (0,0))):=⟨B_b1.out,B_b8.out,B_b9.out⟩
  refine held_norm (fun K hK=>?_); go_simp; refine hK _ ?_; clear hK K
  refine held_value 13 (by kernel_rfl) rfl rfl _ rfl HSS.out ?_
  refine held_norm (fun K hK=>?_); go_simp; refine hK _ ?_; clear hK K
  refine held_value 14 (by kernel_rfl) rfl rfl _ rfl HSS.out ?_
  refine held_norm (fun K hK=>?_); go_simp; refine hK _ ?_; clear hK K
  refine wpAnyH_done (by kernel_rfl) ?_ _
  clear HSS
  go_wp2
  have z0:=run_box (P:=Tryz.prog) 31 B_b2.out Tryz.underlying31 (by kernel_rfl)
  have z1:=run_box (P:=Tryz.prog) 41 B_b3.out Tryz.underlying41 (by kernel_rfl)
  refine bodyPost_ret (by simp [results,Tryz.results12,asAddr,z0,z1]; rfl) rfl ?_
  have hX : serveM ⟨sc,su,sa,sp⟩ ⟨gen,bl,true,⟨nc,nt,⟨nk,na,no,nn⟩⟩,pl,⟨se,sn⟩⟩ = (sn2,idleSv gen bl,ansB (lastAn sn2.answers nc).1,0):=by
   rw [← HSN.out,last_mine ⟨sc,su,sa,sp⟩ ⟨nc,nt,⟨nk,na,no,nn⟩⟩ ⟨se,sn⟩,HPL.out]
   rfl
  have ht:=HT.out
  rw [hX] at ht
  exact ⟨_,rfl,EW.out,ht _ _ _ (Rd.widen (A:=B) (tup4_rd (R1.out) (sv_rd (v:=idleSv gen bl) R0.out.right.left (Rd.all fun w=>writes_nil w)) (RY.out)) (fun k _ h=>.inr (by have q:=((HBB.out k).1 h).1; omega)))⟩
 have hpi : (0 : Int) < (pl.length : Int):=by omega
 obtain ⟨⟨p1,p2⟩,l,hpc⟩ : ∃ q l,pl = q :: l:=by
  cases hq : pl with
  | nil=>rw [hq] at hpl; exact absurd rfl hpl
  | cons q l=>exact ⟨q,l,rfl⟩
 have HPL:=Lib.hid hpc
 have hpn : pl.length = l.length + 1:=by rw [hpc]; rfl
 clear hpl
 obtain ⟨lb,lo,lcx,ex,hx1,hx2,hf,hrest⟩:=plan_first (l:=l) (p:=(p1,p2)) (R0.out.right.right.imp fun w h=>by rw [← hpc]; exact h)
 rw [← hpn] at ex
 simp only [Value.slice.injEq] at ex
 obtain ⟨rfl,-,rfl⟩:=ex
 unfold maxLen at hx2
 have HF:=Lib.hid hf
 have HPR:=Lib.hid hrest
 clear hf hrest hpc
 have c9:=cell_of (i:=9) B_b1.out rfl
 go_wp2_with fail
 clear c2 c9
 have g9:=cell_of (i:=9) B_b9.out rfl
 have f0:=HF.out.out.1
 have f1:=HF.out.out.2
 try simp only [] at f0 f1
 refine wp_region_mono_tail 6 [none,none,none,none,none,some (.inr (fun (r : Value) (wx : World)=>Rd (fun k=>w6_.heap.size ≤ k) (fun w=>Agg elSt (writeSt ⟨sc,su,sa,sp⟩ (p1,p2)) r w) wx))] (by kernel_rfl) (by kernel_rfl) ?_ ?_
 ·exact ⟨trivial,trivial,trivial,trivial,trivial,fun _=>Rd.mono _ _,trivial⟩
 refine wpM_q (.agg #[.slice ca' sc.length cc',.slice ua' su.length uc',.slice aa' sa.length ac',.slice pa' sp.length pc']) rfl (fun w' hw'=>run_loadM 31 (.tmp 8) rfl b8 0 rfl (blk_ext B_b8.out hw') [.slice ca' sc.length cc',.slice ua' su.length uc',.slice aa' sa.length ac',.slice pa' sp.length pc'] rfl Tryz.underlying31 (by kernel_rfl)) ?_
 refine wpM_norm (fun K hK=>?_); go_simp; refine hK _ ?_; clear hK K
 iterate 1 (refine wpM_p (fun K hK=>?_); go_simp; first | refine hK _ ?_ | refine ⟨(fun h=>by cases h),hK _ ?_⟩; clear hK K)
 refine wpM_q (.slice (some ⟨lb,lo,none⟩) pl.length lc') rfl (fun w' hw'=>by have q0:=hw'.cell g9; go_simp) ?_
 refine wpM_norm (fun K hK=>?_); go_simp; refine hK _ ?_; clear hK K
 iterate 1 (refine wpM_p (fun K hK=>?_); go_simp; first | refine hK _ ?_ | refine ⟨(fun h=>by cases h),hK _ ?_⟩; clear hK K)
 refine wpM_q (.agg #[I p1,I p2]) rfl (fun w' hw'=>by have q0:=hw'.cell f0; have q1:=hw'.cell f1; go_simp) ?_
 refine wpM_norm (fun K hK=>?_); go_simp; refine hK _ ?_; clear hK K
 refine wpM_l _ rfl (fun w' hw' hk=>?_) (fun v29=>?_)
 ·have hg : Gives Tryz.prog 30 #[.agg #[.slice ca' sc.length cc',.slice ua' su.length uc',.slice aa' sa.length ac',.slice pa' sp.length pc'],.agg #[I p1,I p2]] w' (fun (r : Value) (wx : World)=>Rd (fun k=>w6_.heap.size ≤ k) (fun w=>Agg elSt (writeSt ⟨sc,su,sa,sp⟩ (p1,p2)) r w) wx):=(Write_any _ _ _ _ ⟨sc,su,sa,sp⟩ p1 p2 w' (monoSt _ _ _ _ hw' (R0.out.left).out) HSM.out).mono fun e wx ⟨r,he,hx,h⟩=>⟨r,he,hx,h.widen fun k _ h=>by rcases h with h | h; exact h.elim; exact Nat.le_trans hw'.size h⟩
  clear hk
  unfold makes
  go_simp
  exact ⟨Ext.refl _,hg⟩
 refine wpM_norm (fun K hK=>?_); go_simp; refine hK _ ?_; clear hK K
 refine wpM_nil ?_
 intro w7 e7 hF
 have hr : (fun (r : Value) (wx : World)=>Rd (fun k=>w6_.heap.size ≤ k) (fun w=>Agg elSt (writeSt ⟨sc,su,sa,sp⟩ (p1,p2)) r w) wx) v29 w7:=hF 29
 clear hF g9 f0 f1
 obtain ⟨sn2,hsn⟩ : ∃ s2,writeSt ⟨sc,su,sa,sp⟩ (p1,p2) = s2:=⟨_,rfl⟩
 rw [hsn] at hr
 have HSN:=Lib.hid hsn
 obtain ⟨cs,rfl,hcs⟩:=rd_agg hr
 obtain ⟨c2,u2,a2,p2',rfl,r1,r2,r3,r4⟩:=rd_st hcs
 obtain ⟨ca2,cc2,rfl⟩:=row_slice r1.out
 obtain ⟨ua2,uc2,rfl⟩:=row_slice r2.out
 obtain ⟨aa2,ac2,rfl⟩:=rowOf_slice r3.out
 obtain ⟨pa2,pc2,rfl⟩:=rowOf_slice r4.out
 have SZ9 : Hid (b8 < w6_.heap.size ∧ b9 < w6_.heap.size):=⟨(Array.getElem?_eq_some_iff.1 B_b8.out).1,(Array.getElem?_eq_some_iff.1 B_b9.out).1⟩
 have hin : ∀ k,k < w7.heap.size → w6_.heap.size ≤ k → B k:=fun k _ h=>(HBB.out k).2 ⟨by have q:=SZ9.out.1; have q2:=D_b3_b8.out; have q3:=A_b3.out; omega,by have q:=SZ9.out.1; omega,by have q:=SZ9.out.2; omega⟩
 have R1:=Lib.hid (hcs.widen hin)
 clear hsn hr hcs r1 r2 r3 r4 hin SZ9
 replace B_b0:=zbx B_b0 e7
 replace B_b1:=zbx B_b1 e7
 replace B_b2:=zbx B_b2 e7
 replace B_b3:=zbx B_b3 e7
 replace B_b8:=zbx B_b8 e7
 replace B_b9:=zbx B_b9 e7
 replace R0:=zrx R0 e7
 replace HF:=zrx HF e7
 replace HPR:=zrx HPR e7
 replace EW:=Lib.hid (EW.out.trans e7)
 clear e7 HF
 refine zss ?_
 unfold Hid
 refine wpList_storeW rfl 31 (.tmp 8) (.tmp 29) rfl b8 rfl [.slice ca2 sn2.cells.length cc2,.slice ua2 sn2.undo.length uc2,.slice aa2 sn2.answers.length ac2,.slice pa2 sn2.past.length pc2] (rfl) B_b8 rfl (by kernel_rfl) rfl (fun w7_ M7=>?_)
 replace B_b0:=zwl M7 B_b0 D_b0_b8
 replace B_b1:=zwl M7 B_b1 D_b1_b8
 replace B_b2:=zwl M7 B_b2 D_b2_b8
 replace B_b3:=zwl M7 B_b3 D_b3_b8
 replace B_b8:=zwb M7
 replace B_b9:=Lib.hid (M7.out.old B_b9.out (Ne.symm NE.out))
 replace R1:=zwr M7 R1 N_b8
 replace R0:=zwr M7 R0 N_b8
 replace HPR:=zwr M7 HPR N_b8
 replace EW:=zwe M7 EW O_b8
 have g9:=cell_of (i:=9) B_b9.out rfl
 go_wp2_with (first | ((with_reducible refine zst (L:=[44,41,31,100]) ?_ ?_); exact rfl) | ((with_reducible refine zsc ?_ ?_); exact rfl))
 unfold Hid
 clear g9
 refine wpList_cut rfl l.length (fun na nc=>Rd B (fun w=>Writes w (.slice na l.length nc) l) w7_) ?_ (fun na' nc' hn=>?_)
 ·by_cases hcap : lc' = 1
  ·have hl0 : l = []:=List.eq_nil_of_length_eq_zero (by omega)
   refine ⟨some ⟨lb,lo,none⟩,0,by rw [hl0]; exact Rd.all fun w=>writes_empty w lb lo 0 (by decide),?_⟩
   rw [hl0] at hpn ⊢
   subst hcap
   go_simp
  ·exact ⟨some ⟨lb,lo + 2,none⟩,lc' - 1,HPR.out,by go_simp; intro h; omega⟩
 replace HPR:=Lib.hid hn
 clear hn hx1 hx2
 go_wp2_with ((with_reducible refine zst (L:=[44,41,31,100]) ?_ ?_); exact rfl)
 unfold Hid
 refine wpList_storeP rfl 27 (.tmp 33) (.tmp 32) rfl b9 9 rfl [.slice na' l.length nc'] (rfl) B_b9 rfl (by kernel_rfl) rfl [I gen,.slice xa' bl.length xc',.bool true,I nc,I nt,I nk,I na,I no,I nn,.slice na' l.length nc',I se,I sn] rfl (fun w8_ M8=>?_)
 replace B_b0:=zwl M8 B_b0 D_b0_b9
 replace B_b1:=zwl M8 B_b1 D_b1_b9
 replace B_b2:=zwl M8 B_b2 D_b2_b9
 replace B_b3:=zwl M8 B_b3 D_b3_b9
 replace B_b8:=Lib.hid (M8.out.old B_b8.out NE.out)
 replace B_b9:=zwb M8
 replace R1:=zwr M8 R1 N_b9
 replace R0:=zwr M8 R0 N_b9
 replace HPR:=zwr M8 HPR N_b9
 replace EW:=zwe M8 EW O_b9
 go_wp2_with fail
 refine held_drew (S:=fun w'=>w'.heap[b8]? = some (.cells #[.slice ca2 sn2.cells.length cc2,.slice ua2 sn2.undo.length uc2,.slice aa2 sn2.answers.length ac2,.slice pa2 sn2.past.length pc2] 31 (0,0)) ∧ w'.heap[b9]? = some (.cells #[I gen,.slice xa' bl.length xc',.bool true,I nc,I nt,I nk,I na,I no,I nn,.slice na' l.length nc',I se,I sn] 41 (0,0))) (by kernel_rfl) (fun wd ed _=>?_)
 replace B_b0:=zbx B_b0 ed
 replace B_b1:=zbx B_b1 ed
 replace B_b2:=zbx B_b2 ed
 replace B_b3:=zbx B_b3 ed
 replace B_b8:=zbx B_b8 ed
 replace B_b9:=zbx B_b9 ed
 replace R1:=zrx R1 ed
 replace R0:=zrx R0 ed
 replace HPR:=zrx HPR ed
 replace EW:=Lib.hid (EW.out.trans ed)
 have HSS : Hid (wd.heap[b8]? = some (.cells #[.slice ca2 sn2.cells.length cc2,.slice ua2 sn2.undo.length uc2,.slice aa2 sn2.answers.length ac2,.slice pa2 sn2.past.length pc2] 31 (0,0)) ∧ wd.heap[b9]? = some (.cells #[I gen,.slice xa' bl.length xc',.bool true,I nc,I nt,I nk,I na,I no,I nn,.slice na' l.length nc',I se,I sn] 41 (0,0))):=⟨B_b8.out,B_b9.out⟩
 refine held_loadW 0 rfl (by kernel_rfl) (by kernel_rfl) (by kernel_rfl) (fun _ _ _ _ h=>h) rfl 31 (.tmp 8) rfl b8 rfl (fun w' hS=>hS.1) Tryz.underlying31 (by kernel_rfl) HSS ?_
 refine held_norm (fun K hK=>?_); go_simp; refine hK _ ?_; clear hK K
 refine held_loadW 1 rfl (by kernel_rfl) (by kernel_rfl) (by kernel_rfl) (fun _ _ _ _ h=>h) rfl 41 (.tmp 9) rfl b9 rfl (fun w' hS=>hS.2) Tryz.underlying41 (by kernel_rfl) HSS ?_
 refine held_norm (fun K hK=>?_); go_simp; refine hK _ ?_; clear hK K
 refine held_storeW 2 (by kernel_rfl) rfl rfl 31 (.tmp 4) (.tmp 34) rfl b2 rfl [.slice ca2 sn2.cells.length cc2,.slice ua2 sn2.undo.length uc2,.slice aa2 sn2.answers.length ac2,.slice pa2 sn2.past.length pc2] (rfl) B_b2 rfl (by kernel_rfl) rfl (fun w9_ M9=>⟨?_,?_⟩)
 ·exact ⟨M9.out.old B_b8.out (Nat.ne_of_gt D_b2_b8.out),M9.out.old B_b9.out (Nat.ne_of_gt D_b2_b9.out)⟩
 replace B_b0:=zwl M9 B_b0 D_b0_b2
 replace B_b1:=zwl M9 B_b1 D_b1_b2
 replace B_b2:=zwb M9
 replace B_b3:=zwg M9 B_b3 D_b2_b3
 replace B_b8:=zwg M9 B_b8 D_b2_b8
 replace B_b9:=zwg M9 B_b9 D_b2_b9
 replace R1:=zwr M9 R1 N_b2
 replace R0:=zwr M9 R0 N_b2
 replace HPR:=zwr M9 HPR N_b2
 replace EW:=zwe M9 EW O_b2
 clear HSS
 have HSS : Hid (w9_.heap[b8]? = some (.cells #[.slice ca2 sn2.cells.length cc2,.slice ua2 sn2.undo.length uc2,.slice aa2 sn2.answers.length ac2,.slice pa2 sn2.past.length pc2] 31 (0,0)) ∧ w9_.heap[b9]? = some (.cells #[I gen,.slice xa' bl.length xc',.bool true,I nc,I nt,I nk,I na,I no,I nn,.slice na' l.length nc',I se,I sn] 41 (0,0))):=⟨B_b8.out,B_b9.out⟩
 refine held_norm (fun K hK=>?_); go_simp; refine hK _ ?_; clear hK K
 refine held_storeW 3 (by kernel_rfl) rfl rfl 41 (.tmp 5) (.tmp 35) rfl b3 rfl [I gen,.slice xa' bl.length xc',.bool true,I nc,I nt,I nk,I na,I no,I nn,.slice na' l.length nc',I se,I sn] (rfl) B_b3 rfl (by kernel_rfl) rfl (fun w10_ M10=>⟨?_,?_⟩)
 ·exact ⟨M10.out.old B_b8.out (Nat.ne_of_gt D_b3_b8.out),M10.out.old B_b9.out (Nat.ne_of_gt D_b3_b9.out)⟩
 replace B_b0:=zwl M10 B_b0 D_b0_b3
 replace B_b1:=zwl M10 B_b1 D_b1_b3
 replace B_b2:=zwl M10 B_b2 D_b2_b3
 replace B_b3:=zwb M10
 replace B_b8:=zwg M10 B_b8 D_b3_b8
 replace B_b9:=zwg M10 B_b9 D_b3_b9
 replace R1:=zwr M10 R1 N_b3
 replace R0:=zwr M10 R0 N_b3
 replace HPR:=zwr M10 HPR N_b3
 replace EW:=zwe M10 EW O_b3
 clear HSS
 have HSS : Hid (w10_.heap[b8]? = some (.cells #[.slice ca2 sn2.cells.length cc2,.slice ua2 sn2.undo.length uc2,.slice aa2 sn2.answers.length ac2,.slice pa2 sn2.past.length pc2] 31 (0,0)) ∧ w10_.heap[b9]? = some (.cells #[I gen,.slice xa' bl.length xc',.bool true,I nc,I nt,I nk,I na,I no,I nn,.slice na' l.length nc',I se,I sn] 41 (0,0))):=⟨B_b8.out,B_b9.out⟩
 refine held_norm (fun K hK=>?_); go_simp; refine hK _ ?_; clear hK K
 refine held_value 4 (by kernel_rfl) rfl rfl _ rfl HSS.out ?_
 refine held_norm (fun K hK=>?_); go_simp; refine hK _ ?_; clear hK K
 refine held_value 5 (by kernel_rfl) rfl rfl _ rfl HSS.out ?_
 refine held_norm (fun K hK=>?_); go_simp; refine hK _ ?_; clear hK K
 refine wpAnyH_done (by kernel_rfl) ?_ _
 clear HSS
 go_wp2
 have z0:=run_box (P:=Tryz.prog) 31 B_b2.out Tryz.underlying31 (by kernel_rfl)
 have z1:=run_box (P:=Tryz.prog) 41 B_b3.out Tryz.underlying41 (by kernel_rfl)
 refine bodyPost_ret (by simp [results,Tryz.results12,asAddr,z0,z1]; rfl) rfl ?_
 have hX : serveM ⟨sc,su,sa,sp⟩ ⟨gen,bl,true,⟨nc,nt,⟨nk,na,no,nn⟩⟩,pl,⟨se,sn⟩⟩ = (sn2,⟨gen,bl,true,⟨nc,nt,⟨nk,na,no,nn⟩⟩,l,⟨se,sn⟩⟩,[],0):=by
  rw [← HSN.out,HPL.out]
  rfl
 have ht:=HT.out
 rw [hX] at ht
 exact ⟨_,rfl,EW.out,ht _ _ _ (Rd.widen (A:=B) (tup4_rd (R1.out) (sv_rd (v:=⟨gen,bl,true,⟨nc,nt,⟨nk,na,no,nn⟩⟩,l,⟨se,sn⟩⟩) R0.out.right.left HPR.out) (Rd.all fun w=>bytes_nil w)) (fun k _ h=>.inr (by have q:=((HBB.out k).1 h).1; omega)))⟩

end Go.Proofs.YtdmipnnfooleladGreat

namespace Go.Proofs.YtdmipnnfooleladGreat
open Go.RowKit Go.Mk
set_option maxRecDepth 100000

set_option maxHeartbeats 2000000 in
theorem refDo_none (m : Mc) (c u a p box plan cl : Value) (kind : Int) (n : Int) (w : World) (A : Nat → Prop) (h : RdM A w m c u a p box plan cl) (h1 : kind ≠ 1) (h2 : kind ≠ 2) (h3 : kind ≠ 3) (h4 : kind ≠ 4) :
  Keeps Tryz.prog 24 #[.agg (cells20 m c u a p box plan cl).toArray,.agg #[I kind,I n]] w A (fun r w'=>TupE elMc (doM m kind n).1 (doM m kind n).2 r w'):=by
 unfold Keeps
 obtain ⟨ca,cc,ua,uc,aa,ac,pa,pc,xa,xc,la,lc,ka,kc,rfl,rfl,rfl,rfl,rfl,rfl,rfl⟩:=h.slices
 obtain ⟨⟨sc,su,sa,sp⟩,⟨gen,bl,busy,⟨nc,nt,⟨nk,na,no,nn⟩⟩,pl,⟨se,sn⟩⟩,up,pause,falls,cls⟩:=m
 simp only [cells20] at *
 have EW:=Lib.hid (Ext.refl w)
 obtain ⟨B,hB⟩:=away A w.heap.size 3
 have HK:=Lib.hid hB
 clear hB
 have H:=Lib.hid (h.widen HK.out.1)
 clear h
 have hX : doM ⟨⟨sc,su,sa,sp⟩,⟨gen,bl,busy,⟨nc,nt,⟨nk,na,no,nn⟩⟩,pl,⟨se,sn⟩⟩,up,pause,falls,cls⟩ kind n = (⟨⟨sc,su,sa,sp⟩,⟨gen,bl,busy,⟨nc,nt,⟨nk,na,no,nn⟩⟩,pl,⟨se,sn⟩⟩,up,pause,falls,cls⟩,1):=by
  unfold doM
  rw [if_neg h1,if_neg h2,if_neg h3,if_neg h4]
 rw [hX]
 have e1 : (kind == 1) = false:=by simpa using h1
 have e2 : (kind == 2) = false:=by simpa using h2
 have e3 : (kind == 3) = false:=by simpa using h3
 have e4 : (kind == 4) = false:=by simpa using h4
 clear hX h1 h2 h3 h4
 go_enter Tryz.func24,Tryz.ntmps24
 go_wp2_with ((with_reducible refine zst (L:=[44,41,31,100]) ?_ ?_); exact rfl)
 unfold Hid
 refine wpList_boxB rfl 44 (.tmp 0) rfl #[.slice ca sc.length cc,.slice ua su.length uc,.slice aa sa.length ac,.slice pa sp.length pc,I gen,.slice xa bl.length xc,.bool busy,I nc,I nt,I nk,I na,I no,I nn,.slice la pl.length lc,I se,I sn,.bool up,I pause,I falls,.slice ka cls.length kc] rfl (fun b0 w1_ M1=>?_)
 have B_b0:=zmb M1
 replace H:=Lib.hid (H.out.ext M1.out.ext)
 replace EW:=zet EW M1
 go_wp2_with ((with_reducible refine zst (L:=[44,41,31,100]) ?_ ?_); exact rfl)
 unfold Hid
 refine wpList_boxB rfl 72 (.tmp 1) rfl #[I kind,I n] rfl (fun b1 w2_ M2=>?_)
 have D_b0_b1:=zld B_b0 M2
 replace B_b0:=zmo M2 B_b0
 have B_b1:=zmb M2
 replace H:=Lib.hid (H.out.ext M2.out.ext)
 replace EW:=zet EW M2
 go_wp2_with ((with_reducible refine zst (L:=[44,41,31,100]) ?_ ?_); exact rfl)
 unfold Hid
 refine wpList_allocB rfl 44 #[.slice none 0 0,.slice none 0 0,.slice none 0 0,.slice none 0 0,I 0,.slice none 0 0,.bool false,I 0,I 0,I 0,I 0,I 0,I 0,.slice none 0 0,I 0,I 0,.bool false,I 0,I 0,.slice none 0 0] (by kernel_rfl) (fun b2 w3_ M3=>?_)
 have D_b0_b2:=zld B_b0 M3
 have D_b1_b2:=zld B_b1 M3
 replace B_b0:=zmo M3 B_b0
 replace B_b1:=zmo M3 B_b1
 have B_b2:=zmb M3
 replace H:=Lib.hid (H.out.ext M3.out.ext)
 replace EW:=zet EW M3
 have A_b0 : Hid (b0 = w.heap.size + 0):=by unfold Hid; have q0:=M1.out.at_; have r0:=M1.out.size; omega
 have N_b0:=znb HK A_b0 (by decide)
 have O_b0:=zob A_b0
 have A_b1 : Hid (b1 = w.heap.size + 1):=by unfold Hid; have q0:=M1.out.at_; have r0:=M1.out.size; have q1:=M2.out.at_; have r1:=M2.out.size; omega
 have N_b1:=znb HK A_b1 (by decide)
 have O_b1:=zob A_b1
 have A_b2 : Hid (b2 = w.heap.size + 2):=by unfold Hid; have q0:=M1.out.at_; have r0:=M1.out.size; have q1:=M2.out.at_; have r1:=M2.out.size; have q2:=M3.out.at_; have r2:=M3.out.size; omega
 have N_b2:=znb HK A_b2 (by decide)
 have O_b2:=zob A_b2
 have k0:=cell_of (i:=0) B_b1.out rfl
 go_wp2_with ((with_reducible refine zst (L:=[44,41,31,100]) ?_ ?_); exact rfl)
 unfold Hid
 clear k0
 refine wpList_loadW rfl 44 (.tmp 2) rfl b0 rfl B_b0 Tryz.underlying44 (by kernel_rfl) (fun v132 H_v132=>?_)
 go_wp2_with ((with_reducible refine zst (L:=[44,41,31,100]) ?_ ?_); exact rfl)
 unfold Hid
 refine wpList_storeW rfl 44 (.tmp 4) (.tmp 132) rfl b2 rfl _ (zcv H_v132) B_b2 rfl (by kernel_rfl) rfl (fun w4_ M4=>?_)
 replace B_b0:=zwl M4 B_b0 D_b0_b2
 replace B_b1:=zwl M4 B_b1 D_b1_b2
 replace B_b2:=zwb M4
 replace H:=Lib.hid (M4.out.rdM H.out N_b2.out)
 replace EW:=zwe M4 EW O_b2
 go_wp2
 have z0:=run_box (P:=Tryz.prog) 44 B_b2.out Tryz.underlying44 (by kernel_rfl)
 refine bodyPost_ret (by simp [results,Tryz.results24,asAddr,z0]; rfl) rfl ?_
 exact ⟨_,rfl,EW.out,Rd.widen (A:=B) (tupE_rd (RdM.mc (m:=⟨⟨sc,su,sa,sp⟩,⟨gen,bl,busy,⟨nc,nt,⟨nk,na,no,nn⟩⟩,pl,⟨se,sn⟩⟩,up,pause,falls,cls⟩) H.out)) (fun k _ h=>HK.out.2.2.2 k h)⟩

set_option maxHeartbeats 2000000 in
theorem refDo_fall (m : Mc) (c u a p box plan cl : Value) (n : Int) (w : World) (A : Nat → Prop) (h : RdM A w m c u a p box plan cl) (hf : 0 ≤ m.falls) :
  Keeps Tryz.prog 24 #[.agg (cells20 m c u a p box plan cl).toArray,.agg #[I 3,I n]] w A (fun r w'=>TupE elMc (doM m 3 n).1 (doM m 3 n).2 r w'):=by
 unfold Keeps
 obtain ⟨ca,cc,ua,uc,aa,ac,pa,pc,xa,xc,la,lc,ka,kc,rfl,rfl,rfl,rfl,rfl,rfl,rfl⟩:=h.slices
 obtain ⟨⟨sc,su,sa,sp⟩,⟨gen,bl,busy,⟨nc,nt,⟨nk,na,no,nn⟩⟩,pl,⟨se,sn⟩⟩,up,pause,falls,cls⟩:=m
 simp only [cells20] at *
 have EW:=Lib.hid (Ext.refl w)
 obtain ⟨B,hB⟩:=away A w.heap.size 3
 have HK:=Lib.hid hB
 clear hB
 have H:=Lib.hid (h.widen HK.out.1)
 clear h
 obtain ⟨FX,FE,hFM⟩ : ∃ x y,fallM ⟨⟨sc,su,sa,sp⟩,⟨gen,bl,busy,⟨nc,nt,⟨nk,na,no,nn⟩⟩,pl,⟨se,sn⟩⟩,up,pause,falls,cls⟩ = (x,y):=⟨_,_,rfl⟩
 have hX : doM ⟨⟨sc,su,sa,sp⟩,⟨gen,bl,busy,⟨nc,nt,⟨nk,na,no,nn⟩⟩,pl,⟨se,sn⟩⟩,up,pause,falls,cls⟩ 3 n = fallM ⟨⟨sc,su,sa,sp⟩,⟨gen,bl,busy,⟨nc,nt,⟨nk,na,no,nn⟩⟩,pl,⟨se,sn⟩⟩,up,pause,falls,cls⟩:=rfl
 rw [hX,hFM]
 have HFM:=Lib.hid hFM
 clear hX hFM
 go_enter Tryz.func24,Tryz.ntmps24
 go_wp2_with ((with_reducible refine zst (L:=[44,41,31,100]) ?_ ?_); exact rfl)
 unfold Hid
 refine wpList_boxB rfl 44 (.tmp 0) rfl #[.slice ca sc.length cc,.slice ua su.length uc,.slice aa sa.length ac,.slice pa sp.length pc,I gen,.slice xa bl.length xc,.bool busy,I nc,I nt,I nk,I na,I no,I nn,.slice la pl.length lc,I se,I sn,.bool up,I pause,I falls,.slice ka cls.length kc] rfl (fun b0 w1_ M1=>?_)
 have B_b0:=zmb M1
 replace H:=Lib.hid (H.out.ext M1.out.ext)
 replace EW:=zet EW M1
 go_wp2_with ((with_reducible refine zst (L:=[44,41,31,100]) ?_ ?_); exact rfl)
 unfold Hid
 refine wpList_boxB rfl 72 (.tmp 1) rfl #[I 3,I n] rfl (fun b1 w2_ M2=>?_)
 have D_b0_b1:=zld B_b0 M2
 replace B_b0:=zmo M2 B_b0
 have B_b1:=zmb M2
 replace H:=Lib.hid (H.out.ext M2.out.ext)
 replace EW:=zet EW M2
 go_wp2_with ((with_reducible refine zst (L:=[44,41,31,100]) ?_ ?_); exact rfl)
 unfold Hid
 refine wpList_allocB rfl 44 #[.slice none 0 0,.slice none 0 0,.slice none 0 0,.slice none 0 0,I 0,.slice none 0 0,.bool false,I 0,I 0,I 0,I 0,I 0,I 0,.slice none 0 0,I 0,I 0,.bool false,I 0,I 0,.slice none 0 0] (by kernel_rfl) (fun b2 w3_ M3=>?_)
 have D_b0_b2:=zld B_b0 M3
 have D_b1_b2:=zld B_b1 M3
 replace B_b0:=zmo M3 B_b0
 replace B_b1:=zmo M3 B_b1
 have B_b2:=zmb M3
 replace H:=Lib.hid (H.out.ext M3.out.ext)
 replace EW:=zet EW M3
 have A_b0 : Hid (b0 = w.heap.size + 0):=by unfold Hid; have q0:=M1.out.at_; have r0:=M1.out.size; omega
 have N_b0:=znb HK A_b0 (by decide)
 have O_b0:=zob A_b0
 have A_b1 : Hid (b1 = w.heap.size + 1):=by unfold Hid; have q0:=M1.out.at_; have r0:=M1.out.size; have q1:=M2.out.at_; have r1:=M2.out.size; omega
 have N_b1:=znb HK A_b1 (by decide)
 have O_b1:=zob A_b1
 have A_b2 : Hid (b2 = w.heap.size + 2):=by unfold Hid; have q0:=M1.out.at_; have r0:=M1.out.size; have q1:=M2.out.at_; have r1:=M2.out.size; have q2:=M3.out.at_; have r2:=M3.out.size; omega
 have N_b2:=znb HK A_b2 (by decide)
 have O_b2:=zob A_b2
 have k0:=cell_of (i:=0) B_b1.out rfl
 go_wp2_with ((with_reducible refine zst (L:=[44,41,31,100]) ?_ ?_); exact rfl)
 unfold Hid
 clear k0
 refine wpList_loadW rfl 44 (.tmp 2) rfl b0 rfl B_b0 Tryz.underlying44 (by kernel_rfl) (fun v124 H_v124=>?_)
 go_wp2_with fail
 rw [show _ = Value.agg #[.slice ca sc.length cc,.slice ua su.length uc,.slice aa sa.length ac,.slice pa sp.length pc,I gen,.slice xa bl.length xc,.bool busy,I nc,I nt,I nk,I na,I no,I nn,.slice la pl.length lc,I se,I sn,.bool up,I pause,I falls,.slice ka cls.length kc] from H_v124.out]
 refine (refFall_keeps ⟨⟨sc,su,sa,sp⟩,⟨gen,bl,busy,⟨nc,nt,⟨nk,na,no,nn⟩⟩,pl,⟨se,sn⟩⟩,up,pause,falls,cls⟩ _ _ _ _ _ _ _ w3_ B H.out hf).to fun r w9 e9 hr=>?_
 rw [HFM.out] at hr
 obtain ⟨cs,rfl,hcs⟩:=rd_tupE hr
 obtain ⟨c',u',a',p',box',plan',cl',rfl,hm⟩:=rd_mc hcs
 obtain ⟨ca',cc',ua',uc',aa',ac',pa',pc',xa',xc',la',lc',ka',kc',rfl,rfl,rfl,rfl,rfl,rfl,rfl⟩:=hm.slices
 have hsz : w.heap.size + 3 ≤ w3_.heap.size:=by have q:=(Array.getElem?_eq_some_iff.1 B_b2.out).1; have q2:=A_b2.out; omega
 have HM:=Lib.hid (hm.widen (B:=B) (fun k _ h=>by
  rcases h with h | h
  ·exact h
  ·exact HK.out.2.1 k (by omega)))
 clear hr hcs hm hsz
 replace B_b0:=zbx B_b0 e9
 replace B_b1:=zbx B_b1 e9
 replace B_b2:=zbx B_b2 e9
 replace H:=Lib.hid (H.out.ext e9)
 replace EW:=Lib.hid (EW.out.trans e9)
 go_wp2_with ((with_reducible refine zst (L:=[44,41,31,100]) ?_ ?_); exact rfl)
 unfold Hid
 refine wpList_storeW rfl 44 (.tmp 4) (.tmp 126) rfl b2 rfl [.slice ca' (FX).store.cells.length cc',.slice ua' (FX).store.undo.length uc',.slice aa' (FX).store.answers.length ac',.slice pa' (FX).store.past.length pc',I (FX).server.gen,.slice xa' (FX).server.box.length xc',.bool (FX).server.busy,I (FX).server.now.client,I (FX).server.now.token,I (FX).server.now.call.kind,I (FX).server.now.call.name,I (FX).server.now.call.other,I (FX).server.now.call.n,.slice la' (FX).server.plan.length lc',I (FX).server.says.err,I (FX).server.says.n,.bool (FX).up,I (FX).pause,I (FX).falls,.slice ka' (FX).clients.length kc'] (rfl) B_b2 rfl (by kernel_rfl) rfl (fun w4_ M4=>?_)
 replace B_b0:=zwl M4 B_b0 D_b0_b2
 replace B_b1:=zwl M4 B_b1 D_b1_b2
 replace B_b2:=zwb M4
 replace H:=Lib.hid (M4.out.rdM H.out N_b2.out)
 replace HM:=Lib.hid (M4.out.rdM HM.out N_b2.out)
 replace EW:=zwe M4 EW O_b2
 go_wp2
 have z0:=run_box (P:=Tryz.prog) 44 B_b2.out Tryz.underlying44 (by kernel_rfl)
 refine bodyPost_ret (by simp [results,Tryz.results24,asAddr,z0]; rfl) rfl ?_
 exact ⟨_,rfl,EW.out,Rd.widen (A:=B) (tupE_rd (RdM.mc (m:=FX) HM.out)) (fun k _ h=>HK.out.2.2.2 k h)⟩

set_option maxHeartbeats 2000000 in
theorem refDo_tick (m : Mc) (c u a p box plan cl : Value) (n : Int) (w : World) (A : Nat → Prop) (h : RdM A w m c u a p box plan cl) (hr : m.store.cells.length * 8 ≤ 140737488355328) (hg : 0 ≤ m.server.gen ∧ m.server.gen ≤ 1000000) (hpz : 0 ≤ m.pause ∧ m.pause ≤ 1000000) :
  Keeps Tryz.prog 24 #[.agg (cells20 m c u a p box plan cl).toArray,.agg #[I 4,I n]] w A (fun r w'=>TupE elMc (doM m 4 n).1 (doM m 4 n).2 r w'):=by
 unfold Keeps
 obtain ⟨ca,cc,ua,uc,aa,ac,pa,pc,xa,xc,la,lc,ka,kc,rfl,rfl,rfl,rfl,rfl,rfl,rfl⟩:=h.slices
 obtain ⟨⟨sc,su,sa,sp⟩,⟨gen,bl,busy,⟨nc,nt,⟨nk,na,no,nn⟩⟩,pl,⟨se,sn⟩⟩,up,pause,falls,cls⟩:=m
 simp only [cells20] at *
 have EW:=Lib.hid (Ext.refl w)
 obtain ⟨B,hB⟩:=away A w.heap.size 3
 have HK:=Lib.hid hB
 clear hB
 have H:=Lib.hid (h.widen HK.out.1)
 clear h
 obtain ⟨FX,hFM⟩ : ∃ x,tickM ⟨⟨sc,su,sa,sp⟩,⟨gen,bl,busy,⟨nc,nt,⟨nk,na,no,nn⟩⟩,pl,⟨se,sn⟩⟩,up,pause,falls,cls⟩ = x:=⟨_,rfl⟩
 have hX : doM ⟨⟨sc,su,sa,sp⟩,⟨gen,bl,busy,⟨nc,nt,⟨nk,na,no,nn⟩⟩,pl,⟨se,sn⟩⟩,up,pause,falls,cls⟩ 4 n = (tickM ⟨⟨sc,su,sa,sp⟩,⟨gen,bl,busy,⟨nc,nt,⟨nk,na,no,nn⟩⟩,pl,⟨se,sn⟩⟩,up,pause,falls,cls⟩,0):=rfl
 rw [hX,hFM]
 have HFM:=Lib.hid hFM
 clear hX hFM
 go_enter Tryz.func24,Tryz.ntmps24
 go_wp2_with ((with_reducible refine zst (L:=[44,41,31,100]) ?_ ?_); exact rfl)
 unfold Hid
 refine wpList_boxB rfl 44 (.tmp 0) rfl #[.slice ca sc.length cc,.slice ua su.length uc,.slice aa sa.length ac,.slice pa sp.length pc,I gen,.slice xa bl.length xc,.bool busy,I nc,I nt,I nk,I na,I no,I nn,.slice la pl.length lc,I se,I sn,.bool up,I pause,I falls,.slice ka cls.length kc] rfl (fun b0 w1_ M1=>?_)
 have B_b0:=zmb M1
 replace H:=Lib.hid (H.out.ext M1.out.ext)
 replace EW:=zet EW M1
 go_wp2_with ((with_reducible refine zst (L:=[44,41,31,100]) ?_ ?_); exact rfl)
 unfold Hid
 refine wpList_boxB rfl 72 (.tmp 1) rfl #[I 4,I n] rfl (fun b1 w2_ M2=>?_)
 have D_b0_b1:=zld B_b0 M2
 replace B_b0:=zmo M2 B_b0
 have B_b1:=zmb M2
 replace H:=Lib.hid (H.out.ext M2.out.ext)
 replace EW:=zet EW M2
 go_wp2_with ((with_reducible refine zst (L:=[44,41,31,100]) ?_ ?_); exact rfl)
 unfold Hid
 refine wpList_allocB rfl 44 #[.slice none 0 0,.slice none 0 0,.slice none 0 0,.slice none 0 0,I 0,.slice none 0 0,.bool false,I 0,I 0,I 0,I 0,I 0,I 0,.slice none 0 0,I 0,I 0,.bool false,I 0,I 0,.slice none 0 0] (by kernel_rfl) (fun b2 w3_ M3=>?_)
 have D_b0_b2:=zld B_b0 M3
 have D_b1_b2:=zld B_b1 M3
 replace B_b0:=zmo M3 B_b0
 replace B_b1:=zmo M3 B_b1
 have B_b2:=zmb M3
 replace H:=Lib.hid (H.out.ext M3.out.ext)
 replace EW:=zet EW M3
 have A_b0 : Hid (b0 = w.heap.size + 0):=by unfold Hid; have q0:=M1.out.at_; have r0:=M1.out.size; omega
 have N_b0:=znb HK A_b0 (by decide)
 have O_b0:=zob A_b0
 have A_b1 : Hid (b1 = w.heap.size + 1):=by unfold Hid; have q0:=M1.out.at_; have r0:=M1.out.size; have q1:=M2.out.at_; have r1:=M2.out.size; omega
 have N_b1:=znb HK A_b1 (by decide)
 have O_b1:=zob A_b1
 have A_b2 : Hid (b2 = w.heap.size + 2):=by unfold Hid; have q0:=M1.out.at_; have r0:=M1.out.size; have q1:=M2.out.at_; have r1:=M2.out.size; have q2:=M3.out.at_; have r2:=M3.out.size; omega
 have N_b2:=znb HK A_b2 (by decide)
 have O_b2:=zob A_b2
 have k0:=cell_of (i:=0) B_b1.out rfl
 go_wp2_with ((with_reducible refine zst (L:=[44,41,31,100]) ?_ ?_); exact rfl)
 unfold Hid
 clear k0
 refine wpList_loadW rfl 44 (.tmp 2) rfl b0 rfl B_b0 Tryz.underlying44 (by kernel_rfl) (fun v130 H_v130=>?_)
 go_wp2_with fail
 rw [show _ = Value.agg #[.slice ca sc.length cc,.slice ua su.length uc,.slice aa sa.length ac,.slice pa sp.length pc,I gen,.slice xa bl.length xc,.bool busy,I nc,I nt,I nk,I na,I no,I nn,.slice la pl.length lc,I se,I sn,.bool up,I pause,I falls,.slice ka cls.length kc] from H_v130.out]
 refine (refTick_keeps ⟨⟨sc,su,sa,sp⟩,⟨gen,bl,busy,⟨nc,nt,⟨nk,na,no,nn⟩⟩,pl,⟨se,sn⟩⟩,up,pause,falls,cls⟩ _ _ _ _ _ _ _ w3_ B H.out hr hg hpz).to fun r w9 e9 hr=>?_
 rw [HFM.out] at hr
 obtain ⟨cs,rfl,hcs⟩:=rd_agg hr
 obtain ⟨c',u',a',p',box',plan',cl',rfl,hm⟩:=rd_mc hcs
 obtain ⟨ca',cc',ua',uc',aa',ac',pa',pc',xa',xc',la',lc',ka',kc',rfl,rfl,rfl,rfl,rfl,rfl,rfl⟩:=hm.slices
 have hsz : w.heap.size + 3 ≤ w3_.heap.size:=by have q:=(Array.getElem?_eq_some_iff.1 B_b2.out).1; have q2:=A_b2.out; omega
 have HM:=Lib.hid (hm.widen (B:=B) (fun k _ h=>by
  rcases h with h | h
  ·exact h
  ·exact HK.out.2.1 k (by omega)))
 clear hr hcs hm hsz
 replace B_b0:=zbx B_b0 e9
 replace B_b1:=zbx B_b1 e9
 replace B_b2:=zbx B_b2 e9
 replace H:=Lib.hid (H.out.ext e9)
 replace EW:=Lib.hid (EW.out.trans e9)
 go_wp2_with ((with_reducible refine zst (L:=[44,41,31,100]) ?_ ?_); exact rfl)
 unfold Hid
 refine wpList_storeW rfl 44 (.tmp 4) (.tmp 131) rfl b2 rfl [.slice ca' (FX).store.cells.length cc',.slice ua' (FX).store.undo.length uc',.slice aa' (FX).store.answers.length ac',.slice pa' (FX).store.past.length pc',I (FX).server.gen,.slice xa' (FX).server.box.length xc',.bool (FX).server.busy,I (FX).server.now.client,I (FX).server.now.token,I (FX).server.now.call.kind,I (FX).server.now.call.name,I (FX).server.now.call.other,I (FX).server.now.call.n,.slice la' (FX).server.plan.length lc',I (FX).server.says.err,I (FX).server.says.n,.bool (FX).up,I (FX).pause,I (FX).falls,.slice ka' (FX).clients.length kc'] (rfl) B_b2 rfl (by kernel_rfl) rfl (fun w4_ M4=>?_)
 replace B_b0:=zwl M4 B_b0 D_b0_b2
 replace B_b1:=zwl M4 B_b1 D_b1_b2
 replace B_b2:=zwb M4
 replace H:=Lib.hid (M4.out.rdM H.out N_b2.out)
 replace HM:=Lib.hid (M4.out.rdM HM.out N_b2.out)
 replace EW:=zwe M4 EW O_b2
 go_wp2
 have z0:=run_box (P:=Tryz.prog) 44 B_b2.out Tryz.underlying44 (by kernel_rfl)
 refine bodyPost_ret (by simp [results,Tryz.results24,asAddr,z0]; rfl) rfl ?_
 exact ⟨_,rfl,EW.out,Rd.widen (A:=B) (tupE_rd (RdM.mc (m:=FX) HM.out)) (fun k _ h=>HK.out.2.2.2 k h)⟩

end Go.Proofs.YtdmipnnfooleladGreat
