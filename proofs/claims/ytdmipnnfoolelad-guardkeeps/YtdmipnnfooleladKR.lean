/- Texts of the proof, merged: G5. -/
import Derived.Test.YtdmipnnfooleladKM

namespace Go.Proofs.Ytdmipnnfoolelad
open Go.RowKit Go.Mk

theorem al_fall : fallM ⟨⟨[0,0,0,0,0,0,0,0,0,0,0],[(1,9)],[],[]⟩,idleSv 0 [],true,0,0,[]⟩ = (⟨⟨[0,0,0,0,0,0,0,0,0,0,0],[(1,9)],[],[]⟩,idleSv 0 [],false,1,1,[]⟩,0):=rfl
theorem al_tick : tickM ⟨⟨[0,0,0,0,0,0,0,0,0,0,0],[(1,9)],[],[]⟩,idleSv 0 [],false,1,1,[]⟩ = ⟨⟨[0,9,0,0,0,0,0,0,0,0,0],[],[],[]⟩,idleSv 1 [],true,0,1,[]⟩:=rfl
theorem al_again : fallM ⟨⟨[0,0,0,0,0,0,0,0,0,0,0],[(1,9)],[],[]⟩,idleSv 0 [],false,1,1,[]⟩ = (⟨⟨[0,0,0,0,0,0,0,0,0,0,0],[(1,9)],[],[]⟩,idleSv 0 [],false,1,1,[]⟩,11):=rfl
theorem field_storeG (x0 x1 x2 x3 x4 x5 x6 x7 x8 x9 x10 x11 x12 x13 x14 x15 x16 x17 x18 x19 : Value) (w : World) : (Instr.field 43 (.agg #[x0,x1,x2,x3,x4,x5,x6,x7,x8,x9,x10,x11,x12,x13,x14,x15,x16,x17,x18,x19]) 0).run Try.prog w = .ok (.agg #[x0,x1,x2,x3]) w:=by kernel_rfl
theorem field_cellsG (x0 x1 x2 x3 : Value) (w : World) : (Instr.field 30 (.agg #[x0,x1,x2,x3]) 0).run Try.prog w = .ok x0 w:=by kernel_rfl
theorem smallG0 : SmallM ⟨⟨[0,0,0,0,0,0,0,0,0,0,0],[(1,9)],[],[]⟩,idleSv 0 [],true,0,0,[]⟩:=⟨by unfold Small; decide,⟨by decide,fun b hb=>(by cases hb),by decide⟩,by decide,fun c hc=>(by cases hc)⟩
theorem smallG1 : SmallM ⟨⟨[0,0,0,0,0,0,0,0,0,0,0],[(1,9)],[],[]⟩,idleSv 0 [],false,1,1,[]⟩:=⟨by unfold Small; decide,⟨by decide,fun b hb=>(by cases hb),by decide⟩,by decide,fun c hc=>(by cases hc)⟩
theorem smallG2 : SmallM ⟨⟨[0,9,0,0,0,0,0,0,0,0,0],[],[],[]⟩,idleSv 1 [],true,0,1,[]⟩:=⟨by unfold Small; decide,⟨by decide,fun b hb=>(by cases hb),by decide⟩,by decide,fun c hc=>(by cases hc)⟩

set_option maxRecDepth 100000 in
set_option maxHeartbeats 8000000 in
theorem aliveGuard_any (w : World) : Gives Try.prog 15 #[] w fun r _=>r = .bool true:=by
 refine gives_exts ?_
 obtain ⟨i0,hi,hz0,hz1,hz2⟩:=info_parts Try.infoInt
 go_enter Try.func15,Try.ntmps15
 go_wp2_with (at_make; refine wpList_make_full _ rfl _ _ 25 rfl w.heap.size 3 i0 (.int .i64 0) 1 Try.underlying25 hi hz0 hz1 .i64 .i64 _ _ 11 rfl rfl rfl rfl (by rw [hz2]; decide) (by decide) (Nat.le_refl _) ?_; intro w1 hown hgrow)
 have EW : Hid (Ext w w1):=(Ext.refl w).grown hgrow (fun k hk=>by cases hk)
 rw [show (madeCells (Value.int IntKind.i64 0).cells (11 * 1)).toList = List.map I [0,0,0,0,0,0,0,0,0,0,0] from by kernel_rfl] at hown
 have HI : Hid (Rd (fun _=>True) (fun w'=>Ints w' (.slice (some ⟨w.heap.size,0,none⟩) 11 11) [0,0,0,0,0,0,0,0,0,0,0]) w1):=Rd.widen (Rd.of (row_heap _ _ _ _) (Row.of_owns hown)) (fun _ _ _=>trivial)
 obtain ⟨g,hg⟩ : ∃ g,w.heap.size = g:=⟨_,rfl⟩
 rw [hg] at HI
 rw [hg]
 obtain ⟨B,HB0⟩ : ∃ B : Nat → Prop,Hid (∀ k,B k ↔ True):=⟨_,fun _=>Iff.rfl⟩
 replace HI:=Lib.hid (HI.out.widen (B:=B) fun k _ _=>(HB0.out k).2 trivial)
 clear hown hgrow hi hz0 hz1 hz2 hg
 go_wp2_with fail
 have MM:=Lib.hid (made w1 (.cells #[I 1,I 9] 72))
 generalize hwm : w1.alloc (.cells #[I 1,I 9] 72) = wm at *
 generalize hbu : w1.heap.size = bu at *
 clear hwm hbu
 replace HI:=zrx HI MM.out.ext
 replace EW:=Lib.hid (EW.out.trans MM.out.ext)
 have HW : Hid (Rd (fun _=>True) (fun w'=>Writes w' (.slice (some ⟨bu,0,none⟩) 1 1) [(1,9)]) wm):=Rd.widen (Rd.of (row_heap _ _ _ _) (Row.of_owns (own_made MM.out (Nat.le_refl _) rfl (by decide)))) (fun _ _ _=>trivial)
 replace HW:=Lib.hid (HW.out.widen (B:=B) fun k _ _=>(HB0.out k).2 trivial)
 clear MM
 obtain ⟨C,HC⟩ : ∃ X : Nat → Prop,Hid (∀ k,X k ↔ (B k ∨ wm.heap.size ≤ k)):=⟨_,fun _=>Iff.rfl⟩
 replace HI:=Lib.hid (HI.out.widen (B:=C) fun k _ h=>(HC.out k).2 (.inl h))
 replace HW:=Lib.hid (HW.out.widen (B:=C) fun k _ h=>(HC.out k).2 (.inl h))
 refine (FallG_keeps ⟨⟨[0,0,0,0,0,0,0,0,0,0,0],[(1,9)],[],[]⟩,idleSv 0 [],true,0,0,[]⟩ _ _ _ _ _ _ _ wm C ⟨HI.out,HW.out,Rd.all fun w=>RowOf.nil w,Rd.all fun w=>RowOf.nil w,Rd.all fun w=>RowOf.nil w,Rd.all fun w=>writes_nil w,Rd.all fun w=>RowOf.nil w⟩ smallG0 (by decide)).to fun r w2 e2 hr=>?_
 rw [al_fall] at hr
 obtain ⟨cs,rfl,hcs⟩:=rd_tupE hr
 obtain ⟨c,u,a,p,box,plan,cl,rfl,hM⟩:=rd_mc hcs
 obtain ⟨ca1,cc1,ua1,uc1,aa1,ac1,pa1,pc1,xa1,xc1,la1,lc1,ka1,kc1,q1,q2,q3,q4,q5,q6,q7⟩:=hM.slices
 replace q1 : c = .slice ca1 11 cc1:=q1
 replace q2 : u = .slice ua1 1 uc1:=q2
 replace q3 : a = .slice aa1 0 ac1:=q3
 replace q4 : p = .slice pa1 0 pc1:=q4
 replace q5 : box = .slice xa1 0 xc1:=q5
 replace q6 : plan = .slice la1 0 lc1:=q6
 replace q7 : cl = .slice ka1 0 kc1:=q7
 subst q1 q2 q3 q4 q5 q6 q7
 have X1:=Lib.hid (hM.widen (B:=C) fun k _ h=>(HC.out k).2 (by rcases h with h | h; exact h.elim; exact .inr h))
 clear hr hcs hM
 replace HI:=zrx HI e2
 replace HW:=zrx HW e2
 replace EW:=Lib.hid (EW.out.trans e2)
 clear e2 HI HW
 go_wp2_with ((with_reducible refine zst (L:=[43,40,30,67]) ?_ ?_); exact rfl)
 unfold Hid
 refine wpList_allocB rfl 43 #[.slice none 0 0,.slice none 0 0,.slice none 0 0,.slice none 0 0,I 0,.slice none 0 0,.bool false,I 0,I 0,I 0,I 0,I 0,I 0,.slice none 0 0,I 0,I 0,.bool false,I 0,I 0,.slice none 0 0] (by kernel_rfl) (fun b1 w1_ M1=>?_)
 obtain ⟨C1,HC1⟩ : ∃ X : Nat → Prop,Hid (∀ k,X k ↔ (C k ∧ k ≠ b1)):=⟨_,fun _=>Iff.rfl⟩
 replace X1:=Lib.hid (X1.out.widen (B:=C1) (fun k hk h=>(HC1.out k).2 ⟨h,by have q2:=M1.out.at_; omega⟩))
 have N_b1 : Hid (¬ C1 b1):=fun h=>((HC1.out _).1 h).2 rfl
 have I_C1 : Hid (∀ k,C1 k → C k):=fun k h=>((HC1.out k).1 h).1
 have O_b1 : Hid (w.heap.size ≤ b1):=by unfold Hid; have q2:=M1.out.at_; have q3:=EW.out.size; omega
 have B_b1:=zmb M1
 replace X1:=Lib.hid (X1.out.ext M1.out.ext)
 replace EW:=zet EW M1
 go_wp2_with ((with_reducible refine zst (L:=[43,40,30,67]) ?_ ?_); exact rfl)
 unfold Hid
 refine wpList_storeW rfl 43 (.tmp 1) (.tmp 13) rfl b1 rfl [.slice ca1 11 cc1,.slice ua1 1 uc1,.slice aa1 0 ac1,.slice pa1 0 pc1,I 0,.slice xa1 0 xc1,.bool false,I 0,I 0,I 0,I 0,I 0,I 0,.slice la1 0 lc1,I 0,I 0,.bool false,I 1,I 1,.slice ka1 0 kc1] (rfl) B_b1 rfl (by kernel_rfl) rfl (fun w2_ M2=>?_)
 replace B_b1:=zwb M2
 replace X1:=Lib.hid (M2.out.rdM X1.out N_b1.out)
 replace EW:=zwe M2 EW O_b1
 go_wp2_with ((with_reducible refine zst (L:=[43,40,30,67]) ?_ ?_); exact rfl)
 unfold Hid
 refine wpList_loadW rfl 43 (.tmp 1) rfl b1 rfl B_b1 Try.underlying43 (by kernel_rfl) (fun v15 H_v15=>?_)
 go_wp2_with fail
 rw [H_v15.out]
 clear H_v15
 obtain ⟨D,HD⟩ : ∃ X : Nat → Prop,Hid (∀ k,X k ↔ (C1 k ∨ w2_.heap.size ≤ k)):=⟨_,fun _=>Iff.rfl⟩
 replace X1:=Lib.hid (X1.out.widen (B:=D) fun k _ h=>(HD.out k).2 (.inl h))
 replace N_b1 : Hid (¬ D b1):=zgrG HD N_b1 B_b1
 refine (TickG_keeps ⟨⟨[0,0,0,0,0,0,0,0,0,0,0],[(1,9)],[],[]⟩,idleSv 0 [],false,1,1,[]⟩ _ _ _ _ _ _ _ w2_ D X1.out smallG1 (by decide) (fun _=>by decide)).to fun r w3 e3 hr=>?_
 rw [al_tick] at hr
 obtain ⟨cs,rfl,hcs⟩:=rd_agg hr
 obtain ⟨c,u,a,p,box,plan,cl,rfl,hM⟩:=rd_mc hcs
 obtain ⟨ca2,cc2,ua2,uc2,aa2,ac2,pa2,pc2,xa2,xc2,la2,lc2,ka2,kc2,q1,q2,q3,q4,q5,q6,q7⟩:=hM.slices
 replace q1 : c = .slice ca2 11 cc2:=q1
 replace q2 : u = .slice ua2 0 uc2:=q2
 replace q3 : a = .slice aa2 0 ac2:=q3
 replace q4 : p = .slice pa2 0 pc2:=q4
 replace q5 : box = .slice xa2 0 xc2:=q5
 replace q6 : plan = .slice la2 0 lc2:=q6
 replace q7 : cl = .slice ka2 0 kc2:=q7
 subst q1 q2 q3 q4 q5 q6 q7
 have X2:=Lib.hid (hM.widen (B:=D) fun k _ h=>(HD.out k).2 (by rcases h with h | h; exact h.elim; exact .inr h))
 clear hr hcs hM
 replace B_b1:=zbx B_b1 e3
 replace X1:=Lib.hid (X1.out.ext e3)
 replace EW:=Lib.hid (EW.out.trans e3)
 clear e3
 go_wp2_with ((with_reducible refine zst (L:=[43,40,30,67]) ?_ ?_); exact rfl)
 unfold Hid
 refine wpList_allocB rfl 43 #[.slice none 0 0,.slice none 0 0,.slice none 0 0,.slice none 0 0,I 0,.slice none 0 0,.bool false,I 0,I 0,I 0,I 0,I 0,I 0,.slice none 0 0,I 0,I 0,.bool false,I 0,I 0,.slice none 0 0] (by kernel_rfl) (fun b3 w3_ M3=>?_)
 have D_b1_b3:=zld B_b1 M3
 obtain ⟨D1,HD1⟩ : ∃ X : Nat → Prop,Hid (∀ k,X k ↔ (D k ∧ k ≠ b3)):=⟨_,fun _=>Iff.rfl⟩
 replace X1:=Lib.hid (X1.out.widen (B:=D1) (fun k hk h=>(HD1.out k).2 ⟨h,by have q2:=M3.out.at_; omega⟩))
 replace X2:=Lib.hid (X2.out.widen (B:=D1) (fun k hk h=>(HD1.out k).2 ⟨h,by have q2:=M3.out.at_; omega⟩))
 replace N_b1:=znw HD1 N_b1
 have N_b3 : Hid (¬ D1 b3):=fun h=>((HD1.out _).1 h).2 rfl
 have I_D1 : Hid (∀ k,D1 k → D k):=fun k h=>((HD1.out k).1 h).1
 have O_b3 : Hid (w.heap.size ≤ b3):=by unfold Hid; have q2:=M3.out.at_; have q3:=EW.out.size; omega
 replace B_b1:=zmo M3 B_b1
 have B_b3:=zmb M3
 replace X1:=Lib.hid (X1.out.ext M3.out.ext)
 replace X2:=Lib.hid (X2.out.ext M3.out.ext)
 replace EW:=zet EW M3
 go_wp2_with ((with_reducible refine zst (L:=[43,40,30,67]) ?_ ?_); exact rfl)
 unfold Hid
 refine wpList_storeW rfl 43 (.tmp 3) (.tmp 16) rfl b3 rfl [.slice ca2 11 cc2,.slice ua2 0 uc2,.slice aa2 0 ac2,.slice pa2 0 pc2,I 1,.slice xa2 0 xc2,.bool false,I 0,I 0,I 0,I 0,I 0,I 0,.slice la2 0 lc2,I 0,I 0,.bool true,I 0,I 1,.slice ka2 0 kc2] (rfl) B_b3 rfl (by kernel_rfl) rfl (fun w4_ M4=>?_)
 replace B_b1:=zwl M4 B_b1 D_b1_b3
 replace B_b3:=zwb M4
 replace X1:=Lib.hid (M4.out.rdM X1.out N_b3.out)
 replace X2:=Lib.hid (M4.out.rdM X2.out N_b3.out)
 replace EW:=zwe M4 EW O_b3
 go_wp2_with ((with_reducible refine zst (L:=[43,40,30,67]) ?_ ?_); exact rfl)
 unfold Hid
 refine wpList_loadW rfl 43 (.tmp 1) rfl b1 rfl B_b1 Try.underlying43 (by kernel_rfl) (fun v18 H_v18=>?_)
 go_wp2_with fail
 rw [H_v18.out]
 clear H_v18
 obtain ⟨E,HE⟩ : ∃ X : Nat → Prop,Hid (∀ k,X k ↔ (D1 k ∨ w4_.heap.size ≤ k)):=⟨_,fun _=>Iff.rfl⟩
 replace X1:=Lib.hid (X1.out.widen (B:=E) fun k _ h=>(HE.out k).2 (.inl h))
 replace X2:=Lib.hid (X2.out.widen (B:=E) fun k _ h=>(HE.out k).2 (.inl h))
 replace N_b1 : Hid (¬ E b1):=zgrG HE N_b1 B_b1
 replace N_b3 : Hid (¬ E b3):=zgrG HE N_b3 B_b3
 refine (FallG_keeps ⟨⟨[0,0,0,0,0,0,0,0,0,0,0],[(1,9)],[],[]⟩,idleSv 0 [],false,1,1,[]⟩ _ _ _ _ _ _ _ w4_ E X1.out smallG1 (by decide)).to fun r w4 e4 hr=>?_
 rw [al_again] at hr
 obtain ⟨cs,rfl,hcs⟩:=rd_tupE hr
 obtain ⟨c,u,a,p,box,plan,cl,rfl,hM⟩:=rd_mc hcs
 obtain ⟨ca3,cc3,ua3,uc3,aa3,ac3,pa3,pc3,xa3,xc3,la3,lc3,ka3,kc3,q1,q2,q3,q4,q5,q6,q7⟩:=hM.slices
 replace q1 : c = .slice ca3 11 cc3:=q1
 replace q2 : u = .slice ua3 1 uc3:=q2
 replace q3 : a = .slice aa3 0 ac3:=q3
 replace q4 : p = .slice pa3 0 pc3:=q4
 replace q5 : box = .slice xa3 0 xc3:=q5
 replace q6 : plan = .slice la3 0 lc3:=q6
 replace q7 : cl = .slice ka3 0 kc3:=q7
 subst q1 q2 q3 q4 q5 q6 q7
 have X3:=Lib.hid (hM.widen (B:=E) fun k _ h=>(HE.out k).2 (by rcases h with h | h; exact h.elim; exact .inr h))
 clear hr hcs hM
 replace B_b1:=zbx B_b1 e4
 replace B_b3:=zbx B_b3 e4
 replace X1:=Lib.hid (X1.out.ext e4)
 replace X2:=Lib.hid (X2.out.ext e4)
 replace EW:=Lib.hid (EW.out.trans e4)
 clear e4
 go_wp2_with ((with_reducible refine zst (L:=[43,40,30,67]) ?_ ?_); exact rfl)
 unfold Hid
 refine wpList_allocB rfl 43 #[.slice none 0 0,.slice none 0 0,.slice none 0 0,.slice none 0 0,I 0,.slice none 0 0,.bool false,I 0,I 0,I 0,I 0,I 0,I 0,.slice none 0 0,I 0,I 0,.bool false,I 0,I 0,.slice none 0 0] (by kernel_rfl) (fun b4 w5_ M5=>?_)
 have D_b1_b4:=zld B_b1 M5
 have D_b3_b4:=zld B_b3 M5
 obtain ⟨E1,HE1⟩ : ∃ X : Nat → Prop,Hid (∀ k,X k ↔ (E k ∧ k ≠ b4)):=⟨_,fun _=>Iff.rfl⟩
 replace X1:=Lib.hid (X1.out.widen (B:=E1) (fun k hk h=>(HE1.out k).2 ⟨h,by have q2:=M5.out.at_; omega⟩))
 replace X2:=Lib.hid (X2.out.widen (B:=E1) (fun k hk h=>(HE1.out k).2 ⟨h,by have q2:=M5.out.at_; omega⟩))
 replace X3:=Lib.hid (X3.out.widen (B:=E1) (fun k hk h=>(HE1.out k).2 ⟨h,by have q2:=M5.out.at_; omega⟩))
 replace N_b1:=znw HE1 N_b1
 replace N_b3:=znw HE1 N_b3
 have N_b4 : Hid (¬ E1 b4):=fun h=>((HE1.out _).1 h).2 rfl
 have I_E1 : Hid (∀ k,E1 k → E k):=fun k h=>((HE1.out k).1 h).1
 have O_b4 : Hid (w.heap.size ≤ b4):=by unfold Hid; have q2:=M5.out.at_; have q3:=EW.out.size; omega
 replace B_b1:=zmo M5 B_b1
 replace B_b3:=zmo M5 B_b3
 have B_b4:=zmb M5
 replace X1:=Lib.hid (X1.out.ext M5.out.ext)
 replace X2:=Lib.hid (X2.out.ext M5.out.ext)
 replace X3:=Lib.hid (X3.out.ext M5.out.ext)
 replace EW:=zet EW M5
 go_wp2_with ((with_reducible refine zst (L:=[43,40,30,67]) ?_ ?_); exact rfl)
 unfold Hid
 refine wpList_storeW rfl 43 (.tmp 4) (.tmp 20) rfl b4 rfl [.slice ca3 11 cc3,.slice ua3 1 uc3,.slice aa3 0 ac3,.slice pa3 0 pc3,I 0,.slice xa3 0 xc3,.bool false,I 0,I 0,I 0,I 0,I 0,I 0,.slice la3 0 lc3,I 0,I 0,.bool false,I 1,I 1,.slice ka3 0 kc3] (rfl) B_b4 rfl (by kernel_rfl) rfl (fun w6_ M6=>?_)
 replace B_b1:=zwl M6 B_b1 D_b1_b4
 replace B_b3:=zwl M6 B_b3 D_b3_b4
 replace B_b4:=zwb M6
 replace X1:=Lib.hid (M6.out.rdM X1.out N_b4.out)
 replace X2:=Lib.hid (M6.out.rdM X2.out N_b4.out)
 replace X3:=Lib.hid (M6.out.rdM X3.out N_b4.out)
 replace EW:=zwe M6 EW O_b4
 obtain ⟨ya,yc,q,-,-,hfm⟩:=X2.out.cells.out.form
 obtain ⟨yb,yo,rfl,hc9⟩:=hfm 1 (by decide)
 replace q : (Value.slice ca2 11 cc2) = .slice (some ⟨yb,yo,none⟩) 11 yc:=q
 simp only [Value.slice.injEq,true_and] at q
 obtain ⟨rfl,rfl⟩:=q
 replace hc9 : w6_.cell? ⟨yb,yo + 1,none⟩ = some (I 9):=hc9
 clear hfm
 have g16:=cell_of (i:=16) B_b1.out rfl
 have g17:=cell_of (i:=17) B_b1.out rfl
 have g18:=cell_of (i:=18) B_b1.out rfl
 have h0:=cell_of (i:=0) B_b3.out rfl
 have h1:=cell_of (i:=1) B_b3.out rfl
 have h4:=cell_of (i:=4) B_b3.out rfl
 have h16:=cell_of (i:=16) B_b3.out rfl
 go_wp2_with fail
 refine (Pause_any 9 w6_).to fun r w5 e5 hr=>?_
 subst hr
 rw [show pauseOf 9 = 3 from rfl]
 clear g16
 clear g17
 clear g18
 clear h0
 clear h1
 clear h4
 clear h16
 clear hc9
 replace B_b1:=zbx B_b1 e5
 replace B_b3:=zbx B_b3 e5
 replace B_b4:=zbx B_b4 e5
 replace X1:=Lib.hid (X1.out.ext e5)
 replace X2:=Lib.hid (X2.out.ext e5)
 replace X3:=Lib.hid (X3.out.ext e5)
 replace EW:=Lib.hid (EW.out.trans e5)
 clear e5
 go_wp2_with ((with_reducible refine zst (L:=[43,40,30,67]) ?_ ?_); exact rfl)
 unfold Hid
 refine wpList_loadG rfl 43 (.tmp 3) rfl b3 0 rfl B_b3 [.slice (some ⟨yb,yo,none⟩) 11 cc2,.slice ua2 0 uc2,.slice aa2 0 ac2,.slice pa2 0 pc2,I 1,.slice xa2 0 xc2,.bool false,I 0,I 0,I 0,I 0,I 0,I 0,.slice la2 0 lc2,I 0,I 0,.bool true,I 0,I 1,.slice ka2 0 kc2] rfl Try.underlying43 (by kernel_rfl) (fun v73 H_v73=>?_)
 go_wp2_with fail
 rw [H_v73.out]
 clear H_v73
 refine (OwnM_keeps ⟨⟨[0,9,0,0,0,0,0,0,0,0,0],[],[],[]⟩,idleSv 1 [],true,0,1,[]⟩ _ _ _ _ _ _ _ w5 _ X2.out smallG2).to fun r w6 e6 hr=>?_
 obtain ⟨cs,er,hcs⟩:=rd_agg hr
 obtain ⟨c,u,a,p,box,plan,cl,rfl,hM⟩:=rd_mc hcs
 obtain ⟨ca5,cc5,q⟩:=row_slice hM.cells.out
 replace q : c = .slice ca5 11 cc5:=q
 subst q
 replace er : r = .agg #[.slice ca5 11 cc5,u,a,p,I 1,box,.bool false,I 0,I 0,I 0,I 0,I 0,I 0,plan,I 0,I 0,.bool true,I 0,I 1,cl]:=er
 subst er
 have hf:=field_storeG (.slice ca5 11 cc5) u a p (I 1) box (.bool false) (I 0) (I 0) (I 0) (I 0) (I 0) (I 0) plan (I 0) (I 0) (.bool true) (I 0) (I 1) cl w6
 have hf2:=field_cellsG (.slice ca5 11 cc5) u a p w6
 clear hr hcs hM
 replace B_b1:=zbx B_b1 e6
 replace B_b3:=zbx B_b3 e6
 replace B_b4:=zbx B_b4 e6
 replace X1:=Lib.hid (X1.out.ext e6)
 replace X2:=Lib.hid (X2.out.ext e6)
 replace X3:=Lib.hid (X3.out.ext e6)
 replace EW:=Lib.hid (EW.out.trans e6)
 clear e6
 go_wp2
 go_ret
 exact ⟨rfl,EW.out⟩

end Go.Proofs.Ytdmipnnfoolelad
