/- Texts of the proof, merged: C4. -/
import Derived.Test.YtdmipnnfoolelaeKK

namespace Go.Proofs.Ytdmipnnfoolelae
open Go.RowKit Go.Mk

theorem al9_1 : goCn ⟨[⟨5,0,0,0⟩],0,false,0,[],[]⟩ 0 4 true = (⟨[⟨5,0,0,0⟩],0,true,4,[],[]⟩,(reqB ⟨0,0,⟨5,0,0,0⟩⟩),0):=rfl
theorem al9_2 : goCn ⟨[⟨5,0,0,0⟩],0,true,4,[],[]⟩ 0 4 true = (⟨[⟨5,0,0,0⟩],0,true,4,[],[]⟩,[],12):=rfl
theorem al9_3 : goCn ⟨[⟨5,0,0,0⟩],0,true,4,[],[]⟩ 0 5 true = (⟨[⟨5,0,0,0⟩],0,true,5,[],[]⟩,(reqB ⟨0,0,⟨5,0,0,0⟩⟩),0):=rfl
theorem al9_4 : comeCn ⟨[⟨5,0,0,0⟩],0,true,5,[],[]⟩ (ansB ⟨0,0,⟨0,3⟩⟩) = ⟨[⟨5,0,0,0⟩],0,true,5,[(ansB ⟨0,0,⟨0,3⟩⟩)],[]⟩:=rfl
theorem al9_5 : goCn ⟨[⟨5,0,0,0⟩],0,true,5,[(ansB ⟨0,0,⟨0,3⟩⟩)],[]⟩ 0 5 true = (⟨[⟨5,0,0,0⟩],1,false,5,[],[⟨0,3⟩]⟩,[],0):=by
 have h : readAn (ansB ⟨0,0,⟨0,3⟩⟩) = (⟨0,0,⟨0,3⟩⟩,0):=readAn_ans (by decide)
 unfold goCn
 dsimp only
 rw [h]
 rfl
theorem al9_6 : goCn ⟨[⟨5,0,0,0⟩],1,false,5,[],[⟨0,3⟩]⟩ 0 5 true = (⟨[⟨5,0,0,0⟩],1,false,5,[],[⟨0,3⟩]⟩,[],11):=rfl
theorem good9 (at_ : Int) (sent : Bool) (gen : Int) (got : List Rp) (h0 : 0 ≤ at_) (h1 : at_ ≤ 1) (hg : got.length ≤ 1) : GoodC ⟨[⟨5,0,0,0⟩],at_,sent,gen,[],got⟩:=⟨h0,by simp only []; omega,⟨by simp,fun x hx=>by rw [List.mem_singleton.1 hx]; decide⟩,by simp only []; omega,by simp,fun b hb=>(by cases hb)⟩
theorem good9x : GoodC ⟨[⟨5,0,0,0⟩],0,true,5,[(ansB ⟨0,0,⟨0,3⟩⟩)],[]⟩:=⟨by decide,by decide,⟨by decide,fun x hx=>by rw [List.mem_singleton.1 hx]; decide⟩,by decide,by decide,fun b hb=>by rw [List.mem_singleton.1 hb]; exact Nat.le_of_ble_eq_true rfl⟩

set_option maxRecDepth 100000 in
set_option maxHeartbeats 8000000 in
theorem aliveClient_any (hCome : ComeOk) (hGo : GoOk) (w : World) : Gives Try.prog 13 #[] w fun r _=>r = .bool true:=by
 refine gives_exts ?_
 have HCO:=Lib.hid hCome
 have HGO:=Lib.hid hGo
 clear hCome hGo
 have EW:=Lib.hid (Ext.refl w)
 go_enter Try.func13,Try.ntmps13
 go_wp2_with ((with_reducible refine zst (L:=[44,41,31,51]) ?_ ?_); exact rfl)
 unfold Hid
 refine wpList_buildB rfl 34 #[(0,.const (.int .i64 5))] rfl #[I 5,I 0,I 0,I 0] (by kernel_rfl) (fun v18 H_v18=>?_)
 obtain rfl:=H_v18.out
 clear H_v18
 go_wp2_with ((with_reducible refine zst (L:=[44,41,31,51]) ?_ ?_); exact rfl)
 unfold Hid
 refine wpList_litB rfl 34 1 #[I 5,I 0,I 0,I 0] (by kernel_rfl) (fun bu w1_ M1=>?_)
 have B_bu:=zmb M1
 replace EW:=zet EW M1
 obtain ⟨B,HB0⟩ : ∃ B : Nat → Prop,Hid (∀ k,B k ↔ True):=⟨_,fun _=>Iff.rfl⟩
 have R0 : Hid (Rd B (fun w'=>RowOf 4 elCl w' (.slice (some ⟨bu,0,none⟩) 1 1) [⟨5,0,0,0⟩]) w1_):=Rd.widen (rdT_of heapCl ((rowOf_flat (f:=fun (x : Cl)=>[I x.kind,I x.name,I x.other,I x.n]) (fun _=>rfl)).2 (Row.of_owns (own_made M1.out (Nat.le_refl _) rfl (by decide))))) (fun k _ _=>(HB0.out k).2 trivial)
 clear B_bu
 go_wp2_with ((with_reducible refine zst (L:=[44,41,31,51]) ?_ ?_); exact rfl)
 unfold Hid
 refine wpList_buildB rfl 51 #[(0,.tmp 19)] rfl #[.slice (some ⟨bu,0,none⟩) 1 1,I 0,.bool false,I 0,.slice none 0 0,.slice none 0 0] (by kernel_rfl) (fun v20 H_v20=>?_)
 go_wp2_with ((with_reducible refine zst (L:=[44,41,31,51]) ?_ ?_); exact rfl)
 unfold Hid
 refine wpList_allocB rfl 51 #[.slice none 0 0,I 0,.bool false,I 0,.slice none 0 0,.slice none 0 0] (by kernel_rfl) (fun b1 w2_ M2=>?_)
 obtain ⟨B1,HB1⟩ : ∃ X : Nat → Prop,Hid (∀ k,X k ↔ (B k ∧ k ≠ b1)):=⟨_,fun _=>Iff.rfl⟩
 replace R0:=zmd HB1 M2 R0
 have N_b1 : Hid (¬ B1 b1):=fun h=>((HB1.out _).1 h).2 rfl
 have I_B1 : Hid (∀ k,B1 k → B k):=fun k h=>((HB1.out k).1 h).1
 have O_b1 : Hid (w.heap.size ≤ b1):=by unfold Hid; have q2:=M2.out.at_; have q3:=EW.out.size; omega
 have B_b1:=zmb M2
 replace R0:=zme M2 R0
 replace EW:=zet EW M2
 go_wp2_with ((with_reducible refine zst (L:=[44,41,31,51]) ?_ ?_); exact rfl)
 unfold Hid
 refine wpList_storeW rfl 51 (.tmp 1) (.tmp 20) rfl b1 rfl _ (zcv H_v20) B_b1 rfl (by kernel_rfl) rfl (fun w3_ M3=>?_)
 replace B_b1:=zwb M3
 replace R0:=zwr M3 R0 N_b1
 replace EW:=zwe M3 EW O_b1
 go_wp2_with ((with_reducible refine zst (L:=[44,41,31,51]) ?_ ?_); exact rfl)
 unfold Hid
 refine wpList_loadW rfl 51 (.tmp 1) rfl b1 rfl B_b1 Try.underlying51 (by kernel_rfl) (fun v22 H_v22=>?_)
 go_wp2_with fail
 rw [H_v22.out]
 clear H_v22
 obtain ⟨G1,HG1⟩ : ∃ X : Nat → Prop,Hid (∀ k,X k ↔ (B1 k ∨ w3_.heap.size ≤ k)):=⟨_,fun _=>Iff.rfl⟩
 replace R0:=Lib.hid (R0.out.widen (B:=G1) fun k _ h=>(HG1.out k).2 (.inl h))
 replace N_b1 : Hid (¬ G1 b1):=zgrC HG1 N_b1 B_b1
 refine (HGO.out ⟨[⟨5,0,0,0⟩],0,false,0,[],[]⟩ _ _ _ 0 4 true w3_ G1 R0.out (Rd.all fun w=>RowOf.nil w) (Rd.all fun w=>RowOf.nil w) (good9 0 false 0 [] (by decide) (by decide) (by decide)) (by decide) (by decide)).to fun r wg1 eg hr=>?_
 rw [al9_1] at hr
 obtain ⟨cs,bv,rfl,hcs,hbv⟩:=rd_tup3 hr
 obtain ⟨x1,x2,x3,rfl,r1,r2,r3⟩:=rd_cn hcs
 obtain ⟨ka1,kc1,q1⟩:=rowOf_slice r1.out
 replace q1 : x1 = .slice ka1 1 kc1:=q1
 obtain ⟨kx1,ky1,q2⟩:=rowOf_slice r2.out
 replace q2 : x2 = .slice kx1 0 ky1:=q2
 obtain ⟨kg1,kh1,q3⟩:=rowOf_slice r3.out
 replace q3 : x3 = .slice kg1 0 kh1:=q3
 subst q1 q2 q3
 obtain ⟨pa1,pc1,qb⟩:=row_slice hbv.out
 replace qb : bv = .slice pa1 10 pc1:=qb
 subst qb
 have hin : ∀ k,k < wg1.heap.size → (G1 k ∨ w3_.heap.size ≤ k) → G1 k:=fun k _ h=>(HG1.out k).2 (by rcases h with h | h; exact (HG1.out k).1 h; exact .inr h)
 have T1:=Lib.hid (hcs.widen hin)
 have Z1:=Lib.hid (hbv.widen hin)
 clear hr hcs hbv r1 r2 r3 hin
 replace B_b1:=zbx B_b1 eg
 replace R0:=zrx R0 eg
 replace EW:=Lib.hid (EW.out.trans eg)
 clear eg
 go_wp2_with ((with_reducible refine zst (L:=[44,41,31,51]) ?_ ?_); exact rfl)
 unfold Hid
 refine wpList_allocB rfl 51 #[.slice none 0 0,I 0,.bool false,I 0,.slice none 0 0,.slice none 0 0] (by kernel_rfl) (fun b2 w4_ M4=>?_)
 have D_b1_b2:=zld B_b1 M4
 obtain ⟨G11,HG11⟩ : ∃ X : Nat → Prop,Hid (∀ k,X k ↔ (G1 k ∧ k ≠ b2)):=⟨_,fun _=>Iff.rfl⟩
 replace R0:=zmd HG11 M4 R0
 replace T1:=zmd HG11 M4 T1
 replace Z1:=zmd HG11 M4 Z1
 replace N_b1:=znw HG11 N_b1
 have N_b2 : Hid (¬ G11 b2):=fun h=>((HG11.out _).1 h).2 rfl
 have I_G11 : Hid (∀ k,G11 k → G1 k):=fun k h=>((HG11.out k).1 h).1
 have O_b2 : Hid (w.heap.size ≤ b2):=by unfold Hid; have q2:=M4.out.at_; have q3:=EW.out.size; omega
 replace B_b1:=zmo M4 B_b1
 have B_b2:=zmb M4
 replace R0:=zme M4 R0
 replace T1:=zme M4 T1
 replace Z1:=zme M4 Z1
 replace EW:=zet EW M4
 go_wp2_with ((with_reducible refine zst (L:=[44,41,31,51]) ?_ ?_); exact rfl)
 unfold Hid
 refine wpList_storeW rfl 51 (.tmp 2) (.tmp 24) rfl b2 rfl [.slice ka1 1 kc1,I 0,.bool true,I 4,.slice kx1 0 ky1,.slice kg1 0 kh1] (rfl) B_b2 rfl (by kernel_rfl) rfl (fun w5_ M5=>?_)
 replace B_b1:=zwl M5 B_b1 D_b1_b2
 replace B_b2:=zwb M5
 replace R0:=zwr M5 R0 N_b2
 replace T1:=zwr M5 T1 N_b2
 replace Z1:=zwr M5 Z1 N_b2
 replace EW:=zwe M5 EW O_b2
 go_wp2_with ((with_reducible refine zst (L:=[44,41,31,51]) ?_ ?_); exact rfl)
 unfold Hid
 refine wpList_loadW rfl 51 (.tmp 2) rfl b2 rfl B_b2 Try.underlying51 (by kernel_rfl) (fun v28 H_v28=>?_)
 go_wp2_with fail
 rw [H_v28.out]
 clear H_v28
 obtain ⟨G2,HG2⟩ : ∃ X : Nat → Prop,Hid (∀ k,X k ↔ (G11 k ∨ w5_.heap.size ≤ k)):=⟨_,fun _=>Iff.rfl⟩
 replace R0:=Lib.hid (R0.out.widen (B:=G2) fun k _ h=>(HG2.out k).2 (.inl h))
 replace T1:=Lib.hid (T1.out.widen (B:=G2) fun k _ h=>(HG2.out k).2 (.inl h))
 replace Z1:=Lib.hid (Z1.out.widen (B:=G2) fun k _ h=>(HG2.out k).2 (.inl h))
 replace N_b1 : Hid (¬ G2 b1):=zgrC HG2 N_b1 B_b1
 replace N_b2 : Hid (¬ G2 b2):=zgrC HG2 N_b2 B_b2
 refine (HGO.out ⟨[⟨5,0,0,0⟩],0,true,4,[],[]⟩ _ _ _ 0 4 true w5_ G2 (T1.out.imp fun _ h=>(cn_iff.1 h).1) (T1.out.imp fun _ h=>(cn_iff.1 h).2.1) (T1.out.imp fun _ h=>(cn_iff.1 h).2.2) (good9 0 true 4 [] (by decide) (by decide) (by decide)) (by decide) (by decide)).to fun r wg2 eg hr=>?_
 rw [al9_2] at hr
 obtain ⟨cs,bv,rfl,hcs,hbv⟩:=rd_tup3 hr
 obtain ⟨x1,x2,x3,rfl,r1,r2,r3⟩:=rd_cn hcs
 obtain ⟨ka2,kc2,q1⟩:=rowOf_slice r1.out
 replace q1 : x1 = .slice ka2 1 kc2:=q1
 obtain ⟨kx2,ky2,q2⟩:=rowOf_slice r2.out
 replace q2 : x2 = .slice kx2 0 ky2:=q2
 obtain ⟨kg2,kh2,q3⟩:=rowOf_slice r3.out
 replace q3 : x3 = .slice kg2 0 kh2:=q3
 subst q1 q2 q3
 obtain ⟨pa2,pc2,qb⟩:=row_slice hbv.out
 replace qb : bv = .slice pa2 0 pc2:=qb
 subst qb
 have hin : ∀ k,k < wg2.heap.size → (G2 k ∨ w5_.heap.size ≤ k) → G2 k:=fun k _ h=>(HG2.out k).2 (by rcases h with h | h; exact (HG2.out k).1 h; exact .inr h)
 have T2:=Lib.hid (hcs.widen hin)
 have Z2:=Lib.hid (hbv.widen hin)
 clear hr hcs hbv r1 r2 r3 hin
 replace B_b1:=zbx B_b1 eg
 replace B_b2:=zbx B_b2 eg
 replace R0:=zrx R0 eg
 replace T1:=zrx T1 eg
 replace Z1:=zrx Z1 eg
 replace EW:=Lib.hid (EW.out.trans eg)
 clear eg
 go_wp2_with ((with_reducible refine zst (L:=[44,41,31,51]) ?_ ?_); exact rfl)
 unfold Hid
 refine wpList_allocB rfl 51 #[.slice none 0 0,I 0,.bool false,I 0,.slice none 0 0,.slice none 0 0] (by kernel_rfl) (fun b5 w6_ M6=>?_)
 have D_b1_b5:=zld B_b1 M6
 have D_b2_b5:=zld B_b2 M6
 obtain ⟨G21,HG21⟩ : ∃ X : Nat → Prop,Hid (∀ k,X k ↔ (G2 k ∧ k ≠ b5)):=⟨_,fun _=>Iff.rfl⟩
 replace R0:=zmd HG21 M6 R0
 replace T1:=zmd HG21 M6 T1
 replace Z1:=zmd HG21 M6 Z1
 replace T2:=zmd HG21 M6 T2
 replace Z2:=zmd HG21 M6 Z2
 replace N_b1:=znw HG21 N_b1
 replace N_b2:=znw HG21 N_b2
 have N_b5 : Hid (¬ G21 b5):=fun h=>((HG21.out _).1 h).2 rfl
 have I_G21 : Hid (∀ k,G21 k → G2 k):=fun k h=>((HG21.out k).1 h).1
 have O_b5 : Hid (w.heap.size ≤ b5):=by unfold Hid; have q2:=M6.out.at_; have q3:=EW.out.size; omega
 replace B_b1:=zmo M6 B_b1
 replace B_b2:=zmo M6 B_b2
 have B_b5:=zmb M6
 replace R0:=zme M6 R0
 replace T1:=zme M6 T1
 replace Z1:=zme M6 Z1
 replace T2:=zme M6 T2
 replace Z2:=zme M6 Z2
 replace EW:=zet EW M6
 go_wp2_with ((with_reducible refine zst (L:=[44,41,31,51]) ?_ ?_); exact rfl)
 unfold Hid
 refine wpList_storeW rfl 51 (.tmp 5) (.tmp 30) rfl b5 rfl [.slice ka2 1 kc2,I 0,.bool true,I 4,.slice kx2 0 ky2,.slice kg2 0 kh2] (rfl) B_b5 rfl (by kernel_rfl) rfl (fun w7_ M7=>?_)
 replace B_b1:=zwl M7 B_b1 D_b1_b5
 replace B_b2:=zwl M7 B_b2 D_b2_b5
 replace B_b5:=zwb M7
 replace R0:=zwr M7 R0 N_b5
 replace T1:=zwr M7 T1 N_b5
 replace Z1:=zwr M7 Z1 N_b5
 replace T2:=zwr M7 T2 N_b5
 replace Z2:=zwr M7 Z2 N_b5
 replace EW:=zwe M7 EW O_b5
 go_wp2_with ((with_reducible refine zst (L:=[44,41,31,51]) ?_ ?_); exact rfl)
 unfold Hid
 refine wpList_loadW rfl 51 (.tmp 2) rfl b2 rfl B_b2 Try.underlying51 (by kernel_rfl) (fun v34 H_v34=>?_)
 go_wp2_with fail
 rw [H_v34.out]
 clear H_v34
 obtain ⟨G3,HG3⟩ : ∃ X : Nat → Prop,Hid (∀ k,X k ↔ (G21 k ∨ w7_.heap.size ≤ k)):=⟨_,fun _=>Iff.rfl⟩
 replace R0:=Lib.hid (R0.out.widen (B:=G3) fun k _ h=>(HG3.out k).2 (.inl h))
 replace T1:=Lib.hid (T1.out.widen (B:=G3) fun k _ h=>(HG3.out k).2 (.inl h))
 replace Z1:=Lib.hid (Z1.out.widen (B:=G3) fun k _ h=>(HG3.out k).2 (.inl h))
 replace T2:=Lib.hid (T2.out.widen (B:=G3) fun k _ h=>(HG3.out k).2 (.inl h))
 replace Z2:=Lib.hid (Z2.out.widen (B:=G3) fun k _ h=>(HG3.out k).2 (.inl h))
 replace N_b1 : Hid (¬ G3 b1):=zgrC HG3 N_b1 B_b1
 replace N_b2 : Hid (¬ G3 b2):=zgrC HG3 N_b2 B_b2
 replace N_b5 : Hid (¬ G3 b5):=zgrC HG3 N_b5 B_b5
 refine (HGO.out ⟨[⟨5,0,0,0⟩],0,true,4,[],[]⟩ _ _ _ 0 5 true w7_ G3 (T1.out.imp fun _ h=>(cn_iff.1 h).1) (T1.out.imp fun _ h=>(cn_iff.1 h).2.1) (T1.out.imp fun _ h=>(cn_iff.1 h).2.2) (good9 0 true 4 [] (by decide) (by decide) (by decide)) (by decide) (by decide)).to fun r wg3 eg hr=>?_
 rw [al9_3] at hr
 obtain ⟨cs,bv,rfl,hcs,hbv⟩:=rd_tup3 hr
 obtain ⟨x1,x2,x3,rfl,r1,r2,r3⟩:=rd_cn hcs
 obtain ⟨ka3,kc3,q1⟩:=rowOf_slice r1.out
 replace q1 : x1 = .slice ka3 1 kc3:=q1
 obtain ⟨kx3,ky3,q2⟩:=rowOf_slice r2.out
 replace q2 : x2 = .slice kx3 0 ky3:=q2
 obtain ⟨kg3,kh3,q3⟩:=rowOf_slice r3.out
 replace q3 : x3 = .slice kg3 0 kh3:=q3
 subst q1 q2 q3
 obtain ⟨pa3,pc3,qb⟩:=row_slice hbv.out
 replace qb : bv = .slice pa3 10 pc3:=qb
 subst qb
 have hin : ∀ k,k < wg3.heap.size → (G3 k ∨ w7_.heap.size ≤ k) → G3 k:=fun k _ h=>(HG3.out k).2 (by rcases h with h | h; exact (HG3.out k).1 h; exact .inr h)
 have T3:=Lib.hid (hcs.widen hin)
 have Z3:=Lib.hid (hbv.widen hin)
 clear hr hcs hbv r1 r2 r3 hin
 replace B_b1:=zbx B_b1 eg
 replace B_b2:=zbx B_b2 eg
 replace B_b5:=zbx B_b5 eg
 replace R0:=zrx R0 eg
 replace T1:=zrx T1 eg
 replace Z1:=zrx Z1 eg
 replace T2:=zrx T2 eg
 replace Z2:=zrx Z2 eg
 replace EW:=Lib.hid (EW.out.trans eg)
 clear eg
 go_wp2_with ((with_reducible refine zst (L:=[44,41,31,51]) ?_ ?_); exact rfl)
 unfold Hid
 refine wpList_allocB rfl 51 #[.slice none 0 0,I 0,.bool false,I 0,.slice none 0 0,.slice none 0 0] (by kernel_rfl) (fun b8 w8_ M8=>?_)
 have D_b1_b8:=zld B_b1 M8
 have D_b2_b8:=zld B_b2 M8
 have D_b5_b8:=zld B_b5 M8
 obtain ⟨G31,HG31⟩ : ∃ X : Nat → Prop,Hid (∀ k,X k ↔ (G3 k ∧ k ≠ b8)):=⟨_,fun _=>Iff.rfl⟩
 replace R0:=zmd HG31 M8 R0
 replace T1:=zmd HG31 M8 T1
 replace Z1:=zmd HG31 M8 Z1
 replace T2:=zmd HG31 M8 T2
 replace Z2:=zmd HG31 M8 Z2
 replace T3:=zmd HG31 M8 T3
 replace Z3:=zmd HG31 M8 Z3
 replace N_b1:=znw HG31 N_b1
 replace N_b2:=znw HG31 N_b2
 replace N_b5:=znw HG31 N_b5
 have N_b8 : Hid (¬ G31 b8):=fun h=>((HG31.out _).1 h).2 rfl
 have I_G31 : Hid (∀ k,G31 k → G3 k):=fun k h=>((HG31.out k).1 h).1
 have O_b8 : Hid (w.heap.size ≤ b8):=by unfold Hid; have q2:=M8.out.at_; have q3:=EW.out.size; omega
 replace B_b1:=zmo M8 B_b1
 replace B_b2:=zmo M8 B_b2
 replace B_b5:=zmo M8 B_b5
 have B_b8:=zmb M8
 replace R0:=zme M8 R0
 replace T1:=zme M8 T1
 replace Z1:=zme M8 Z1
 replace T2:=zme M8 T2
 replace Z2:=zme M8 Z2
 replace T3:=zme M8 T3
 replace Z3:=zme M8 Z3
 replace EW:=zet EW M8
 go_wp2_with ((with_reducible refine zst (L:=[44,41,31,51]) ?_ ?_); exact rfl)
 unfold Hid
 refine wpList_storeW rfl 51 (.tmp 8) (.tmp 36) rfl b8 rfl [.slice ka3 1 kc3,I 0,.bool true,I 5,.slice kx3 0 ky3,.slice kg3 0 kh3] (rfl) B_b8 rfl (by kernel_rfl) rfl (fun w9_ M9=>?_)
 replace B_b1:=zwl M9 B_b1 D_b1_b8
 replace B_b2:=zwl M9 B_b2 D_b2_b8
 replace B_b5:=zwl M9 B_b5 D_b5_b8
 replace B_b8:=zwb M9
 replace R0:=zwr M9 R0 N_b8
 replace T1:=zwr M9 T1 N_b8
 replace Z1:=zwr M9 Z1 N_b8
 replace T2:=zwr M9 T2 N_b8
 replace Z2:=zwr M9 Z2 N_b8
 replace T3:=zwr M9 T3 N_b8
 replace Z3:=zwr M9 Z3 N_b8
 replace EW:=zwe M9 EW O_b8
 go_wp2_with fail
 refine wp_region_mono_tail 6 [none,none,none,some (.inr (fun (r : Value) (wx : World)=>Bytes wx r (ansB ⟨0,0,⟨0,3⟩⟩))),some (.inr (fun (r : Value) (wx : World)=>∃ calls box got,r = .agg #[calls,I 0,.bool true,I 5,box,got] ∧ RowOf 4 elCl wx calls [⟨5,0,0,0⟩] ∧ RowOf 1 elBs wx box [(ansB ⟨0,0,⟨0,3⟩⟩)] ∧ RowOf 2 elRp wx got [])),some (.inr (BoxC w9_.heap.size 51 #[.slice none 0 0,I 0,.bool false,I 0,.slice none 0 0,.slice none 0 0]))] (by kernel_rfl) (by kernel_rfl) ?_ ?_
 ·exact ⟨trivial,trivial,trivial,fun _ _ _ he h=>h.ext he,fun _ _ _ he ⟨x,y,z,e,h1,h2,h3⟩=>⟨x,y,z,e,h1.ext monoCl he,h2.ext monoBs he,h3.ext monoRp he⟩,monoBoxC _ _ _,trivial⟩
 refine wpM_q (.agg #[.slice ka3 1 kc3,I 0,.bool true,I 5,.slice kx3 0 ky3,.slice kg3 0 kh3]) rfl (fun w' hw'=>run_loadM 51 (.tmp 8) rfl b8 0 rfl (blk_ext B_b8.out hw') [.slice ka3 1 kc3,I 0,.bool true,I 5,.slice kx3 0 ky3,.slice kg3 0 kh3] rfl Try.underlying51 (by kernel_rfl)) ?_
 refine wpM_norm (fun K hK=>?_); go_simp; refine hK _ ?_; clear hK K
 iterate 2 (refine wpM_p (fun K hK=>?_); go_simp; first | refine hK _ ?_ | refine ⟨(fun h=>by cases h),hK _ ?_⟩; clear hK K)
 refine wpM_l _ rfl (fun w' hw' hk=>?_) (fun v42=>?_)
 ·have hg:=AnswerBytes_any 0 0 0 3 w'
  clear hk
  unfold makes
  go_simp
  exact ⟨Ext.refl _,hg⟩
 refine wpM_norm (fun K hK=>?_); go_simp; refine hK _ ?_; clear hK K
 refine wpM_l _ rfl (fun w' hw' hk=>?_) (fun v43=>?_)
 ·have hb : Bytes w' v42 (ansB ⟨0,0,⟨0,3⟩⟩):=hk 42 (by decide)
  obtain ⟨_,_,rfl⟩:=row_slice hb
  have ht:=(cn_iff (c:=⟨[⟨5,0,0,0⟩],0,true,5,[],[]⟩)).1 (T3.out.ext hw').out
  have hg : Gives Try.prog 8 _ w' (fun (r : Value) (wx : World)=>∃ calls box got,r = .agg #[calls,I 0,.bool true,I 5,box,got] ∧ RowOf 4 elCl wx calls [⟨5,0,0,0⟩] ∧ RowOf 1 elBs wx box [(ansB ⟨0,0,⟨0,3⟩⟩)] ∧ RowOf 2 elRp wx got []):=Calls.mono (HCO.out ⟨[⟨5,0,0,0⟩],0,true,5,[],[]⟩ _ _ _ _ (ansB ⟨0,0,⟨0,3⟩⟩) w' (fun _=>True) (rdT_of heapCl ht.1) (rdT_of heapBs ht.2.1) (rdT_of heapRp ht.2.2) (Rd.widen (Rd.of (row_heap _ _ _ _) hb) (fun _ _ _=>trivial)) (good9 0 true 5 [] (by decide) (by decide) (by decide)) (Nat.le_of_ble_eq_true rfl)) fun e wx h=>by
   obtain ⟨r,he,hx,hr⟩:=h
   rw [al9_4] at hr
   obtain ⟨cs,rfl,hcs⟩:=rd_agg hr
   obtain ⟨x1,x2,x3,rfl,r1,r2,r3⟩:=rd_cn hcs
   exact ⟨_,he,hx,x1,x2,x3,rfl,r1.out,r2.out,r3.out⟩
  clear hk
  unfold makes
  go_simp
  exact ⟨Ext.refl _,hg⟩
 refine wpM_norm (fun K hK=>?_); go_simp; refine hK _ ?_; clear hK K
 refine wpM_l _ rfl (fun w' hw' hk=>?_) (fun v11=>?_)
 ·clear hk
  unfold makes
  go_simp
  exact ⟨(Ext.refl _).alloc _,boxC_new hw'.size⟩
 refine wpM_norm (fun K hK=>?_); go_simp; refine hK _ ?_; clear hK K
 refine wpM_nil ?_
 intro w5 e5 hF
 obtain ⟨x1,x2,x3,rfl,s1,s2,s3⟩ : (fun (r : Value) (wx : World)=>∃ calls box got,r = .agg #[calls,I 0,.bool true,I 5,box,got] ∧ RowOf 4 elCl wx calls [⟨5,0,0,0⟩] ∧ RowOf 1 elBs wx box [(ansB ⟨0,0,⟨0,3⟩⟩)] ∧ RowOf 2 elRp wx got []) v43 w5:=hF 43
 obtain ⟨b11,rfl,hb11,hB11⟩ : BoxC w9_.heap.size 51 #[.slice none 0 0,I 0,.bool false,I 0,.slice none 0 0,.slice none 0 0] v11 w5:=hF 11
 clear hF
 obtain ⟨D,HD⟩ : ∃ D : Nat → Prop,Hid (∀ k,D k ↔ k ≠ b11):=⟨_,fun _=>Iff.rfl⟩
 have T6:=Lib.hid ((cn_off (c:=⟨[⟨5,0,0,0⟩],0,true,5,[(ansB ⟨0,0,⟨0,3⟩⟩)],[]⟩) hB11 s1 s2 s3 (fun y hy=>by rw [List.mem_singleton.1 hy]; exact fun e=>by cases e)).widen (B:=D) fun k _ h=>(HD.out k).2 h)
 replace Z1:=Lib.hid (Z1.out.widen (B:=D) fun k hk _=>(HD.out k).2 (by omega))
 replace Z3:=Lib.hid (Z3.out.widen (B:=D) fun k hk _=>(HD.out k).2 (by omega))
 have D_b2_b11 : Hid (b2 < b11):=by unfold Hid; have q:=(Array.getElem?_eq_some_iff.1 B_b2.out).1; omega
 have O_b11 : Hid (w.heap.size ≤ b11):=by unfold Hid; have q:=O_b2.out; have q2:=D_b2_b11.out; omega
 clear T1 T2 T3 Z2 R0 B_b1 B_b5 B_b8
 replace B_b2:=zbx B_b2 e5
 replace Z1:=zrx Z1 e5
 replace Z3:=zrx Z3 e5
 replace EW:=Lib.hid (EW.out.trans e5)
 clear e5
 have B_b11:=Lib.hid hB11
 have N_b11 : Hid (¬ D b11):=fun h=>(HD.out _).1 h rfl
 clear hB11 hb11
 obtain ⟨ka6,kc6,q1⟩:=rowOf_slice s1
 replace q1 : x1 = .slice ka6 1 kc6:=q1
 obtain ⟨kx6,ky6,q2⟩:=rowOf_slice s2
 replace q2 : x2 = .slice kx6 1 ky6:=q2
 obtain ⟨kg6,kh6,q3⟩:=rowOf_slice s3
 replace q3 : x3 = .slice kg6 0 kh6:=q3
 subst q1 q2 q3
 clear s1 s2 s3
 refine stop_store ?_
 unfold Hid
 refine wpList_storeW rfl 51 (.tmp 11) (.tmp 43) rfl b11 rfl [.slice ka6 1 kc6,I 0,.bool true,I 5,.slice kx6 1 ky6,.slice kg6 0 kh6] (rfl) B_b11 rfl (by kernel_rfl) rfl (fun w10_ M10=>?_)
 replace B_b2:=zwl M10 B_b2 D_b2_b11
 replace B_b11:=zwb M10
 replace Z1:=zwr M10 Z1 N_b11
 replace Z3:=zwr M10 Z3 N_b11
 replace T6:=zwr M10 T6 N_b11
 replace EW:=zwe M10 EW O_b11
 go_wp2_with ((with_reducible refine zst (L:=[44,41,31,51]) ?_ ?_); exact rfl)
 unfold Hid
 refine wpList_loadW rfl 51 (.tmp 11) rfl b11 rfl B_b11 Try.underlying51 (by kernel_rfl) (fun v45 H_v45=>?_)
 go_wp2_with fail
 rw [H_v45.out]
 clear H_v45
 obtain ⟨G7,HG7⟩ : ∃ X : Nat → Prop,Hid (∀ k,X k ↔ (D k ∨ w10_.heap.size ≤ k)):=⟨_,fun _=>Iff.rfl⟩
 replace Z1:=Lib.hid (Z1.out.widen (B:=G7) fun k _ h=>(HG7.out k).2 (.inl h))
 replace Z3:=Lib.hid (Z3.out.widen (B:=G7) fun k _ h=>(HG7.out k).2 (.inl h))
 replace T6:=Lib.hid (T6.out.widen (B:=G7) fun k _ h=>(HG7.out k).2 (.inl h))
 replace N_b11 : Hid (¬ G7 b11):=zgrC HG7 N_b11 B_b11
 refine (HGO.out ⟨[⟨5,0,0,0⟩],0,true,5,[(ansB ⟨0,0,⟨0,3⟩⟩)],[]⟩ _ _ _ 0 5 true w10_ G7 (T6.out.imp fun _ h=>(cn_iff.1 h).1) (T6.out.imp fun _ h=>(cn_iff.1 h).2.1) (T6.out.imp fun _ h=>(cn_iff.1 h).2.2) good9x (by decide) (by decide)).to fun r wg7 eg hr=>?_
 rw [al9_5] at hr
 obtain ⟨cs,bv,rfl,hcs,hbv⟩:=rd_tup3 hr
 obtain ⟨x1,x2,x3,rfl,r1,r2,r3⟩:=rd_cn hcs
 obtain ⟨ka7,kc7,q1⟩:=rowOf_slice r1.out
 replace q1 : x1 = .slice ka7 1 kc7:=q1
 obtain ⟨kx7,ky7,q2⟩:=rowOf_slice r2.out
 replace q2 : x2 = .slice kx7 0 ky7:=q2
 obtain ⟨kg7,kh7,q3⟩:=rowOf_slice r3.out
 replace q3 : x3 = .slice kg7 1 kh7:=q3
 subst q1 q2 q3
 obtain ⟨pa7,pc7,qb⟩:=row_slice hbv.out
 replace qb : bv = .slice pa7 0 pc7:=qb
 subst qb
 have hin : ∀ k,k < wg7.heap.size → (G7 k ∨ w10_.heap.size ≤ k) → G7 k:=fun k _ h=>(HG7.out k).2 (by rcases h with h | h; exact (HG7.out k).1 h; exact .inr h)
 have T7:=Lib.hid (hcs.widen hin)
 have Z7:=Lib.hid (hbv.widen hin)
 clear hr hcs hbv r1 r2 r3 hin
 replace B_b2:=zbx B_b2 eg
 replace B_b11:=zbx B_b11 eg
 replace Z1:=zrx Z1 eg
 replace Z3:=zrx Z3 eg
 replace T6:=zrx T6 eg
 replace EW:=Lib.hid (EW.out.trans eg)
 clear eg
 go_wp2_with ((with_reducible refine zst (L:=[44,41,31,51]) ?_ ?_); exact rfl)
 unfold Hid
 refine wpList_allocB rfl 51 #[.slice none 0 0,I 0,.bool false,I 0,.slice none 0 0,.slice none 0 0] (by kernel_rfl) (fun b12 w11_ M11=>?_)
 have D_b2_b12:=zld B_b2 M11
 have D_b11_b12:=zld B_b11 M11
 obtain ⟨G71,HG71⟩ : ∃ X : Nat → Prop,Hid (∀ k,X k ↔ (G7 k ∧ k ≠ b12)):=⟨_,fun _=>Iff.rfl⟩
 replace Z1:=zmd HG71 M11 Z1
 replace Z3:=zmd HG71 M11 Z3
 replace T6:=zmd HG71 M11 T6
 replace T7:=zmd HG71 M11 T7
 replace Z7:=zmd HG71 M11 Z7
 replace N_b11:=znw HG71 N_b11
 have N_b12 : Hid (¬ G71 b12):=fun h=>((HG71.out _).1 h).2 rfl
 have I_G71 : Hid (∀ k,G71 k → G7 k):=fun k h=>((HG71.out k).1 h).1
 have O_b12 : Hid (w.heap.size ≤ b12):=by unfold Hid; have q2:=M11.out.at_; have q3:=EW.out.size; omega
 replace B_b2:=zmo M11 B_b2
 replace B_b11:=zmo M11 B_b11
 have B_b12:=zmb M11
 replace Z1:=zme M11 Z1
 replace Z3:=zme M11 Z3
 replace T6:=zme M11 T6
 replace T7:=zme M11 T7
 replace Z7:=zme M11 Z7
 replace EW:=zet EW M11
 go_wp2_with ((with_reducible refine zst (L:=[44,41,31,51]) ?_ ?_); exact rfl)
 unfold Hid
 refine wpList_storeW rfl 51 (.tmp 12) (.tmp 47) rfl b12 rfl [.slice ka7 1 kc7,I 1,.bool false,I 5,.slice kx7 0 ky7,.slice kg7 1 kh7] (rfl) B_b12 rfl (by kernel_rfl) rfl (fun w12_ M12=>?_)
 replace B_b2:=zwl M12 B_b2 D_b2_b12
 replace B_b11:=zwl M12 B_b11 D_b11_b12
 replace B_b12:=zwb M12
 replace Z1:=zwr M12 Z1 N_b12
 replace Z3:=zwr M12 Z3 N_b12
 replace T6:=zwr M12 T6 N_b12
 replace T7:=zwr M12 T7 N_b12
 replace Z7:=zwr M12 Z7 N_b12
 replace EW:=zwe M12 EW O_b12
 go_wp2_with ((with_reducible refine zst (L:=[44,41,31,51]) ?_ ?_); exact rfl)
 unfold Hid
 refine wpList_loadW rfl 51 (.tmp 12) rfl b12 rfl B_b12 Try.underlying51 (by kernel_rfl) (fun v51 H_v51=>?_)
 go_wp2_with fail
 rw [H_v51.out]
 clear H_v51
 obtain ⟨G8,HG8⟩ : ∃ X : Nat → Prop,Hid (∀ k,X k ↔ (G71 k ∨ w12_.heap.size ≤ k)):=⟨_,fun _=>Iff.rfl⟩
 replace Z1:=Lib.hid (Z1.out.widen (B:=G8) fun k _ h=>(HG8.out k).2 (.inl h))
 replace Z3:=Lib.hid (Z3.out.widen (B:=G8) fun k _ h=>(HG8.out k).2 (.inl h))
 replace T6:=Lib.hid (T6.out.widen (B:=G8) fun k _ h=>(HG8.out k).2 (.inl h))
 replace T7:=Lib.hid (T7.out.widen (B:=G8) fun k _ h=>(HG8.out k).2 (.inl h))
 replace Z7:=Lib.hid (Z7.out.widen (B:=G8) fun k _ h=>(HG8.out k).2 (.inl h))
 replace N_b11 : Hid (¬ G8 b11):=zgrC HG8 N_b11 B_b11
 replace N_b12 : Hid (¬ G8 b12):=zgrC HG8 N_b12 B_b12
 refine (HGO.out ⟨[⟨5,0,0,0⟩],1,false,5,[],[⟨0,3⟩]⟩ _ _ _ 0 5 true w12_ G8 (T7.out.imp fun _ h=>(cn_iff.1 h).1) (T7.out.imp fun _ h=>(cn_iff.1 h).2.1) (T7.out.imp fun _ h=>(cn_iff.1 h).2.2) (good9 1 false 5 [⟨0,3⟩] (by decide) (by decide) (by decide)) (by decide) (by decide)).to fun r wg8 eg hr=>?_
 rw [al9_6] at hr
 obtain ⟨cs,bv,rfl,hcs,hbv⟩:=rd_tup3 hr
 obtain ⟨x1,x2,x3,rfl,r1,r2,r3⟩:=rd_cn hcs
 obtain ⟨ka8,kc8,q1⟩:=rowOf_slice r1.out
 replace q1 : x1 = .slice ka8 1 kc8:=q1
 obtain ⟨kx8,ky8,q2⟩:=rowOf_slice r2.out
 replace q2 : x2 = .slice kx8 0 ky8:=q2
 obtain ⟨kg8,kh8,q3⟩:=rowOf_slice r3.out
 replace q3 : x3 = .slice kg8 1 kh8:=q3
 subst q1 q2 q3
 obtain ⟨pa8,pc8,qb⟩:=row_slice hbv.out
 replace qb : bv = .slice pa8 0 pc8:=qb
 subst qb
 have hin : ∀ k,k < wg8.heap.size → (G8 k ∨ w12_.heap.size ≤ k) → G8 k:=fun k _ h=>(HG8.out k).2 (by rcases h with h | h; exact (HG8.out k).1 h; exact .inr h)
 have T8:=Lib.hid (hcs.widen hin)
 have Z8:=Lib.hid (hbv.widen hin)
 clear hr hcs hbv r1 r2 r3 hin
 replace B_b2:=zbx B_b2 eg
 replace B_b11:=zbx B_b11 eg
 replace B_b12:=zbx B_b12 eg
 replace Z1:=zrx Z1 eg
 replace Z3:=zrx Z3 eg
 replace T6:=zrx T6 eg
 replace T7:=zrx T7 eg
 replace Z7:=zrx Z7 eg
 replace EW:=Lib.hid (EW.out.trans eg)
 clear eg
 go_wp2_with ((with_reducible refine zst (L:=[44,41,31,51]) ?_ ?_); exact rfl)
 unfold Hid
 refine wpList_allocB rfl 51 #[.slice none 0 0,I 0,.bool false,I 0,.slice none 0 0,.slice none 0 0] (by kernel_rfl) (fun b15 w13_ M13=>?_)
 have D_b2_b15:=zld B_b2 M13
 have D_b11_b15:=zld B_b11 M13
 have D_b12_b15:=zld B_b12 M13
 obtain ⟨G81,HG81⟩ : ∃ X : Nat → Prop,Hid (∀ k,X k ↔ (G8 k ∧ k ≠ b15)):=⟨_,fun _=>Iff.rfl⟩
 replace Z1:=zmd HG81 M13 Z1
 replace Z3:=zmd HG81 M13 Z3
 replace T6:=zmd HG81 M13 T6
 replace T7:=zmd HG81 M13 T7
 replace Z7:=zmd HG81 M13 Z7
 replace T8:=zmd HG81 M13 T8
 replace Z8:=zmd HG81 M13 Z8
 replace N_b11:=znw HG81 N_b11
 replace N_b12:=znw HG81 N_b12
 have N_b15 : Hid (¬ G81 b15):=fun h=>((HG81.out _).1 h).2 rfl
 have I_G81 : Hid (∀ k,G81 k → G8 k):=fun k h=>((HG81.out k).1 h).1
 have O_b15 : Hid (w.heap.size ≤ b15):=by unfold Hid; have q2:=M13.out.at_; have q3:=EW.out.size; omega
 replace B_b2:=zmo M13 B_b2
 replace B_b11:=zmo M13 B_b11
 replace B_b12:=zmo M13 B_b12
 have B_b15:=zmb M13
 replace Z1:=zme M13 Z1
 replace Z3:=zme M13 Z3
 replace T6:=zme M13 T6
 replace T7:=zme M13 T7
 replace Z7:=zme M13 Z7
 replace T8:=zme M13 T8
 replace Z8:=zme M13 Z8
 replace EW:=zet EW M13
 go_wp2_with ((with_reducible refine zst (L:=[44,41,31,51]) ?_ ?_); exact rfl)
 unfold Hid
 refine wpList_storeW rfl 51 (.tmp 15) (.tmp 53) rfl b15 rfl [.slice ka8 1 kc8,I 1,.bool false,I 5,.slice kx8 0 ky8,.slice kg8 1 kh8] (rfl) B_b15 rfl (by kernel_rfl) rfl (fun w14_ M14=>?_)
 replace B_b2:=zwl M14 B_b2 D_b2_b15
 replace B_b11:=zwl M14 B_b11 D_b11_b15
 replace B_b12:=zwl M14 B_b12 D_b12_b15
 replace B_b15:=zwb M14
 replace Z1:=zwr M14 Z1 N_b15
 replace Z3:=zwr M14 Z3 N_b15
 replace T6:=zwr M14 T6 N_b15
 replace T7:=zwr M14 T7 N_b15
 replace Z7:=zwr M14 Z7 N_b15
 replace T8:=zwr M14 T8 N_b15
 replace Z8:=zwr M14 Z8 N_b15
 replace EW:=zwe M14 EW O_b15
 have hcv1:=run_string_of (P:=Try.prog) Z1.out.out Try.underlying24 Try.underlying5 Try.underlying9
 have hcv2:=run_string_of (P:=Try.prog) Z3.out.out Try.underlying24 Try.underlying5 Try.underlying9
 obtain ⟨ga,gc,qg,-,-,hfm⟩:=form_sameRp ((cn_iff (c:=⟨[⟨5,0,0,0⟩],1,false,5,[],[⟨0,3⟩]⟩)).1 T7.out.out).2.2
 obtain ⟨gb,go,rfl,hc0,hc1⟩:=hfm 0 ⟨0,3⟩ rfl
 replace qg : (Value.slice kg7 1 kh7) = .slice (some ⟨gb,go,none⟩) 1 gc:=qg
 simp only [Value.slice.injEq,true_and] at qg
 obtain ⟨rfl,rfl⟩:=qg
 clear hfm
 have m2:=cell_of (i:=2) B_b2.out rfl
 have n1:=cell_of (i:=1) B_b12.out rfl
 have n5:=cell_of (i:=5) B_b12.out rfl
 go_wp2
 go_ret
 exact ⟨rfl,EW.out⟩

end Go.Proofs.Ytdmipnnfoolelae
