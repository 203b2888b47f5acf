/- Texts of the proof, merged: N17 S5 V5b. -/
import Derived.Test.YtdmipnnfooleladGreatJS
import Derived.Test.YtdmipnnfooleladGreatJD
import Derived.Test.YtdmipnnfooleladGreatJC
import Derived.Test.YtdmipnnfooleladGreatJH
import Derived.Test.YtdmipnnfooleladGreatJG
import Derived.Test.YtdmipnnfooleladGreatJQ

namespace Go.Proofs.YtdmipnnfooleladGreat
open Go.RowKit Go.Mk
set_option maxRecDepth 100000

theorem Tryz.infoErrno : (Tryz.prog.info? 37).map (fun i=>(i.zero,i.size,i.bytes)) = some (some (.int .i64 0),1,8):=by kernel_rfl

/-- What a machine tells, step by step. -/
def playE (m : Mc) : List (Int × Int) → List Int
 | []=>[]
 | p :: l=>(doM m p.1 p.2).2 :: playE (doM m p.1 p.2).1 l
theorem playE_snoc (p : Int × Int) : ∀ (l : List (Int × Int)) (m : Mc),playE m (l ++ [p]) = playE m l ++ [(doM (playM m l) p.1 p.2).2]
 | [],m=>rfl
 | q :: l,m=>by
  show (doM m q.1 q.2).2 :: playE (doM m q.1 q.2).1 (l ++ [p]) = _
  rw [playE_snoc p l]
  rfl
theorem playM_snoc (p : Int × Int) (l : List (Int × Int)) (m : Mc) : playM m (l ++ [p]) = (doM (playM m l) p.1 p.2).1:=by
 unfold playM
 rw [List.foldl_append]
 rfl
theorem take_snoc {l : List (Int × Int)} {k : Nat} (h : k < l.length) : l.take (k + 1) = l.take k ++ [l.getD k (0,0)]:=by
 rw [List.take_add_one,List.getElem?_eq_getElem h,List.getD_eq_getElem?_getD,List.getElem?_eq_getElem h]
 rfl
theorem fit_play {l : List (List Cl)} (hl : rightL l) (steps : List (Int × Int)) {k : Nat} (hk : k ≤ 400) : Fit (playM (newMc l) (steps.take k)):=by
 obtain ⟨ks,bz,h⟩:=inv_all hl (steps.take k)
 have hs:=size_play (size_new l) (steps.take k)
 exact fit_of hl h (hs.mono (j:=400) (by rw [List.length_take]; omega)) (by omega)

def PlayT (l : List (List Cl)) (steps : List (Int × Int)) (r : Value) (w : World) : Prop:=∃ (cs : List Value) (es : Value),r = .tuple #[.agg cs.toArray,es] ∧ elMc w cs (playM (newMc l) (steps.take 400)) ∧ Ints w es (playE (newMc l) (steps.take 400))
theorem rd_play {l : List (List Cl)} {steps : List (Int × Int)} {r : Value} {A : Nat → Prop} {w : World} (h : Rd A (PlayT l steps r) w) : ∃ (cs : List Value) (es : Value),r = .tuple #[.agg cs.toArray,es] ∧ Rd A (fun w=>elMc w cs (playM (newMc l) (steps.take 400))) w ∧ Rd A (fun w=>Ints w es (playE (newMc l) (steps.take 400))) w:=by
 obtain ⟨cs,es,e1,h1,h2⟩:=h.out
 have key : ∀ w',PlayT l steps r w' → elMc w' cs (playM (newMc l) (steps.take 400)) ∧ Ints w' es (playE (newMc l) (steps.take 400)):=fun w' hw=>by
  obtain ⟨cs',es',e1',h3,h4⟩:=hw
  rw [e1] at e1'
  simp only [Value.tuple.injEq,Array.mk.injEq,List.cons.injEq,Value.agg.injEq,and_true] at e1'
  obtain ⟨q1,q2⟩:=e1'
  have q1 : cs = cs':=by simpa using q1
  subst q1 q2
  exact ⟨h3,h4⟩
 exact ⟨cs,es,e1,h.imp fun w' hw=>(key w' hw).1,h.imp fun w' hw=>(key w' hw).2⟩

set_option maxHeartbeats 4000000 in
theorem refPlay_keeps (v sv : Value) (l : List (List Cl)) (steps : List (Int × Int)) (w : World) (A : Nat → Prop) (hl : rightL l) (hv : Rd A (fun w=>RowOf 1 elCls w v l) w) (hs : Writes w sv steps) :
  Keeps Tryz.prog 7 #[v,sv] w A (PlayT l steps):=by
 unfold Keeps
 obtain ⟨sa0,scap,rfl,s1,s2,s3⟩:=hs.form
 unfold maxLen at s2
 have HS3:=Lib.hid s3
 have HL:=Lib.hid hl
 have HV:=Lib.hid (hv.widen (B:=fun k=>A k ∧ k < w.heap.size) (fun k hk h=>⟨h,hk⟩))
 clear hv hs s3 hl
 obtain ⟨va,vcap,rfl⟩:=rowOf_slice HV.out.out
 obtain ⟨j0,hj,hy0,hy1,hy2⟩:=info_parts Tryz.infoErrno
 have HJ:=Lib.hid hj
 clear hj
 have EW:=Lib.hid (Ext.refl w)
 go_enter Tryz.func7,Tryz.ntmps7
 go_wp2_with ((with_reducible refine zst (L:=[44,41,31,100]) ?_ ?_); exact rfl)
 unfold Hid
 refine wpList_allocB rfl 44 #[.slice none 0 0,.slice none 0 0,.slice none 0 0,.slice none 0 0,I 0,.slice none 0 0,.bool false,I 0,I 0,I 0,I 0,I 0,I 0,.slice none 0 0,I 0,I 0,.bool false,I 0,I 0,.slice none 0 0] (by kernel_rfl) (fun b0 w1_ M1=>?_)
 have B_b0:=zmb M1
 replace EW:=zet EW M1
 have O_b0 : Hid (w.heap.size ≤ b0):=by unfold Hid; have q:=M1.out.at_; omega
 go_wp2_with fail
 refine (refNew_keeps _ l w1_ (fun k=>A k ∧ k < w.heap.size) (HV.out.ext M1.out.ext)).to fun r w2 e2 hr=>?_
 obtain ⟨cs,e,rfl,hc⟩:=rd_new hr
 rcases hc with ⟨rfl,-,hm⟩ | ⟨-,-,hno⟩
 case inr=>exact absurd HL.out hno
 obtain ⟨c,u,a,p,box,plan,cl,rfl,hM⟩:=rd_mc hm
 obtain ⟨ca,cc,ua,uc,aa,ac,pa,pc,xa,xc,la,lc,ka,kc,rfl,rfl,rfl,rfl,rfl,rfl,rfl⟩:=hM.slices
 have H:=Lib.hid hM
 clear hM hm hr
 replace B_b0:=zbx B_b0 e2
 replace EW:=Lib.hid (EW.out.trans e2)
 have e2':=Lib.hid e2
 clear e2
 go_wp2_with ((with_reducible refine zst (L:=[44,41,31,100]) ?_ ?_); exact rfl)
 unfold Hid
 refine wpList_allocB rfl 44 #[.slice none 0 0,.slice none 0 0,.slice none 0 0,.slice none 0 0,I 0,.slice none 0 0,.bool false,I 0,I 0,I 0,I 0,I 0,I 0,.slice none 0 0,I 0,I 0,.bool false,I 0,I 0,.slice none 0 0] (by kernel_rfl) (fun b1 w2_ M2=>?_)
 have D_b0_b1:=zld B_b0 M2
 replace B_b0:=zmo M2 B_b0
 have B_b1:=zmb M2
 replace EW:=zet EW M2
 have O_b1 : Hid (w.heap.size ≤ b1):=by unfold Hid; have q:=D_b0_b1.out; have q2:=O_b0.out; omega
 obtain ⟨E,HE⟩ : ∃ E : Nat → Prop,Hid (∀ k,E k ↔ (((A k ∧ k < w.heap.size) ∨ w1_.heap.size ≤ k) ∧ k < b1)):=⟨_,fun _=>Iff.rfl⟩
 replace H:=Lib.hid ((H.out.widen (B:=E) (fun k hk h=>(HE.out k).2 ⟨h,by have q:=M2.out.at_; omega⟩)).ext M2.out.ext)
 have N_b0 : Hid (¬ E b0):=fun h=>by have q:=((HE.out _).1 h).1; have q1:=M1.out.at_; have q2:=M1.out.size; omega
 have N_b1 : Hid (¬ E b1):=fun h=>by have q:=((HE.out _).1 h).2; omega
 go_wp2_with ((with_reducible refine zst (L:=[44,41,31,100]) ?_ ?_); exact rfl)
 unfold Hid
 refine wpList_storeW rfl 44 (.tmp 6) (.tmp 16) rfl b1 rfl [.slice ca (newMc l).store.cells.length cc,.slice ua (newMc l).store.undo.length uc,.slice aa (newMc l).store.answers.length ac,.slice pa (newMc l).store.past.length pc,I (newMc l).server.gen,.slice xa (newMc l).server.box.length xc,.bool (newMc l).server.busy,I (newMc l).server.now.client,I (newMc l).server.now.token,I (newMc l).server.now.call.kind,I (newMc l).server.now.call.name,I (newMc l).server.now.call.other,I (newMc l).server.now.call.n,.slice la (newMc l).server.plan.length lc,I (newMc l).server.says.err,I (newMc l).server.says.n,.bool (newMc l).up,I (newMc l).pause,I (newMc l).falls,.slice ka (newMc l).clients.length kc] (rfl) B_b1 rfl (by kernel_rfl) rfl (fun w3_ M3=>?_)
 replace B_b0:=zwl M3 B_b0 D_b0_b1
 replace B_b1:=zwb M3
 replace H:=Lib.hid (M3.out.rdM H.out N_b1.out)
 replace EW:=zwe M3 EW O_b1
 go_wp2_with fail
 go_loopw [8,20] (fun es i wr=>∃ (k : Nat) (E : Nat → Prop) (mk : Mc) (c u a p box plan cl : Value),k ≤ steps.length ∧ k ≤ 400 ∧ i = I k ∧ mk = playM (newMc l) (steps.take k) ∧ RdM E wr mk c u a p box plan cl ∧ (∀ j,E j → j < wr.heap.size ∧ (A j ∨ w.heap.size ≤ j)) ∧ ¬ E b0 ∧ ¬ E b1 ∧ (∀ g,es.ownBlock = some g → ¬ E g) ∧ wr.heap[b0]? = some (.cells #[.slice none 0 0,.slice none 0 0,.slice none 0 0,.slice none 0 0,I 0,.slice none 0 0,.bool false,I 0,I 0,I 0,I 0,I 0,I 0,.slice none 0 0,I 0,I 0,.bool false,I 0,I 0,.slice none 0 0] 44 (0,0)) ∧ wr.heap[b1]? = some (.cells (cells20 mk c u a p box plan cl).toArray 44 (0,0)) ∧ wr.ownsRow (b1 + 1) 37 1 es k ((playE (newMc l) (steps.take k)).map I) ∧ Ext w wr) (fun _ i _=>steps.length - (intOf i).toNat)
 case atStart=>exact ⟨0,E,newMc l,_,_,_,_,_,_,_,Nat.zero_le _,Nat.zero_le _,rfl,rfl,H.out,fun j hj=>⟨by have q:=(HE.out j).1 hj; have q2:=(Array.getElem?_eq_some_iff.1 B_b1.out).1; omega,by rcases ((HE.out j).1 hj).1 with h | h; exact .inl h.1; exact .inr (by have q:=M1.out.ext.size; omega)⟩,N_b0.out,N_b1.out,fun g hg=>(by cases hg),B_b0.out,B_b1.out,World.ownsRow_nil _ _ _ _,EW.out⟩
 case round =>
  obtain ⟨k,E',mk,c',u',a',p',box',plan',cl',hk,h4,rfl,hmk,hm,hE,n0,n1,hes,hb0,hb1,ho,hex⟩:=hrel
  clear B_b0 B_b1 H EW N_b0 N_b1 HE e2'
  obtain ⟨ca,cc,ua,uc,aa,ac,pa,pc,xa,xc,la,lc,ka,kc,rfl,rfl,rfl,rfl,rfl,rfl,rfl⟩:=hm.slices
  obtain ⟨ea,ecap,rfl⟩:=own_slice' ho
  have HM:=Lib.hid hmk
  have H:=Lib.hid hm
  have HE:=Lib.hid hE
  have N_b0:=Lib.hid n0
  have N_b1:=Lib.hid n1
  have HES:=Lib.hid hes
  have B_b0:=Lib.hid hb0
  have B_b1 : Hid (wr.heap[b1]? = some (.cells #[.slice ca mk.store.cells.length cc,.slice ua mk.store.undo.length uc,.slice aa mk.store.answers.length ac,.slice pa mk.store.past.length pc,I mk.server.gen,.slice xa mk.server.box.length xc,.bool mk.server.busy,I mk.server.now.client,I mk.server.now.token,I mk.server.now.call.kind,I mk.server.now.call.name,I mk.server.now.call.other,I mk.server.now.call.n,.slice la mk.server.plan.length lc,I mk.server.says.err,I mk.server.says.n,.bool mk.up,I mk.pause,I mk.falls,.slice ka mk.clients.length kc] 44 (0,0))):=hb1
  have OE:=Lib.hid ho
  have EW:=Lib.hid hex
  clear hmk hm hE n0 n1 hes hb0 hb1 ho hex
  generalize hEr : (E' : Nat → Prop) = E at *
  clear hEr E'
  by_cases hlt : k < steps.length
  ·by_cases h400 : k = 400
   ·subst h400
    obtain ⟨sb,so,rfl,c0,c1⟩:=HS3.out 400 hlt
    replace c0:=EW.out.cell c0
    replace c1:=EW.out.cell c1
    generalize steps.getD 400 (0,0) = pp at c0 c1
    obtain ⟨kd,sn⟩:=pp
    simp only [] at c0 c1
    have OE0:=OE
    go_wp2_with ((with_reducible refine zst (L:=[44,41,31,100]) ?_ ?_); exact rfl)
    unfold Hid
    clear c0 c1
    refine wpList_allocB rfl 72 #[I 0,I 0] (by kernel_rfl) (fun b2 w41_ M41=>?_)
    have D_b0_b2:=zld B_b0 M41
    have D_b1_b2:=zld B_b1 M41
    replace B_b0:=zmo M41 B_b0
    replace B_b1:=zmo M41 B_b1
    have B_b2:=zmb M41
    replace H:=Lib.hid (H.out.ext M41.out.ext)
    replace OE:=Lib.hid (owns_ext OE.out M41.out.ext)
    replace EW:=zet EW M41
    have N_b2 : Hid (¬ E b2):=fun h=>by have q:=(HE.out _ h).1; have q1:=M41.out.at_; omega
    have O_b2 : Hid (w.heap.size ≤ b2):=by unfold Hid; have q:=D_b1_b2.out; have q2:=O_b1.out; omega
    have OEN : Hid ((Value.slice ea 400 ecap).ownBlock ≠ some b2):=fun e=>by have q:=(OE0.out.lt _ e).2; have q1:=M41.out.at_; omega
    go_wp2_with ((with_reducible refine zst (L:=[44,41,31,100]) ?_ ?_); exact rfl)
    unfold Hid
    refine wpList_storeW rfl 72 (.tmp 10) (.tmp 24) rfl b2 rfl [I kd,I sn] (rfl) B_b2 rfl (by kernel_rfl) rfl (fun w42_ M42=>?_)
    replace B_b0:=zwl M42 B_b0 D_b0_b2
    replace B_b1:=zwl M42 B_b1 D_b1_b2
    replace B_b2:=zwb M42
    replace H:=Lib.hid (M42.out.rdM H.out N_b2.out)
    replace OE:=Lib.hid (M42.out.owns OE.out OEN.out)
    replace EW:=zwe M42 EW O_b2
    go_wp2_with ((with_reducible refine zst (L:=[44,41,31,100]) ?_ ?_); exact rfl)
    unfold Hid
    refine wpList_loadW rfl 44 (.tmp 6) rfl b1 rfl B_b1 Tryz.underlying44 (by kernel_rfl) (fun v39 H_v39=>?_)
    go_wp2_with ((with_reducible refine zst (L:=[44,41,31,100]) ?_ ?_); exact rfl)
    unfold Hid
    refine wpList_storeW rfl 44 (.tmp 4) (.tmp 39) rfl b0 rfl _ (zcv H_v39) B_b0 rfl (by kernel_rfl) rfl (fun w43_ M43=>?_)
    replace B_b0:=zwb M43
    replace B_b1:=zwg M43 B_b1 D_b0_b1
    replace B_b2:=zwg M43 B_b2 D_b0_b2
    replace H:=Lib.hid (M43.out.rdM H.out N_b0.out)
    replace OE:=Lib.hid (M43.out.owns OE.out (fun e=>by have q:=(OE.out.lt _ e).1; have q2:=D_b0_b1.out; omega))
    replace EW:=zwe M43 EW O_b0
    go_wp2
    have z0:=run_box (P:=Tryz.prog) 44 B_b0.out Tryz.underlying44 (by kernel_rfl)
    refine bodyPost_ret (by simp [results,Tryz.results7,asAddr,z0]; rfl) rfl ?_
    have hmm:=HM.out
    have hoe:=OE.out
    have r1:=(H.out.widen (B:=fun k=>A k ∨ w.heap.size ≤ k) (fun k _ h=>(HE.out k h).2)).mc
    rw [hmm] at r1
    have r2:=(rd_owns hoe).widen (B:=fun k=>A k ∨ w.heap.size ≤ k) (fun k _ h=>.inr (by have q:=O_b1.out; omega))
    have hlen : (playE (newMc l) (steps.take 400)).length = 400:=by have q:=hoe.1; simpa using q
    refine ⟨_,rfl,EW.out,(r1.and r2).imp fun w' h=>⟨_,_,(by rw [← hmm]),h.1,?_⟩⟩
    have h2:=h.2
    unfold Ints
    rw [hlen]
    exact h2
   ·have h400i : ((k : Int) == 400) = false:=by simpa using (fun h : (k : Int) = 400=>h400 (by omega))
    have hk4 : k < 400:=by omega
    have HT:=Lib.hid (take_snoc hlt)
    have FIT:=Lib.hid (fit_play HL.out steps h4)
    rw [← HM.out] at FIT
    obtain ⟨sb,so,rfl,c0,c1⟩:=HS3.out k hlt
    replace c0:=EW.out.cell c0
    replace c1:=EW.out.cell c1
    generalize steps.getD k (0,0) = pp at *
    obtain ⟨kd,sn⟩:=pp
    simp only [] at c0 c1
    have OE0:=OE
    go_wp2_with ((with_reducible refine zst (L:=[44,41,31,100]) ?_ ?_); exact rfl)
    unfold Hid
    clear c0 c1
    refine wpList_allocB rfl 72 #[I 0,I 0] (by kernel_rfl) (fun b2 w61_ M61=>?_)
    have D_b0_b2:=zld B_b0 M61
    have D_b1_b2:=zld B_b1 M61
    replace B_b0:=zmo M61 B_b0
    replace B_b1:=zmo M61 B_b1
    have B_b2:=zmb M61
    replace H:=Lib.hid (H.out.ext M61.out.ext)
    replace OE:=Lib.hid (owns_ext OE.out M61.out.ext)
    replace EW:=zet EW M61
    have B2AT : Hid (b2 = wr.heap.size):=M61.out.at_
    have N_b2 : Hid (¬ E b2):=fun h=>by have q:=(HE.out _ h).1; have q1:=M61.out.at_; omega
    have O_b2 : Hid (w.heap.size ≤ b2):=by unfold Hid; have q:=D_b1_b2.out; have q2:=O_b1.out; omega
    have OEN : Hid ((Value.slice ea k ecap).ownBlock ≠ some b2):=fun e=>by have q:=(OE0.out.lt _ e).2; have q1:=M61.out.at_; omega
    go_wp2_with ((with_reducible refine zst (L:=[44,41,31,100]) ?_ ?_); exact rfl)
    unfold Hid
    refine wpList_storeW rfl 72 (.tmp 10) (.tmp 24) rfl b2 rfl [I kd,I sn] (rfl) B_b2 rfl (by kernel_rfl) rfl (fun w62_ M62=>?_)
    replace B_b0:=zwl M62 B_b0 D_b0_b2
    replace B_b1:=zwl M62 B_b1 D_b1_b2
    replace B_b2:=zwb M62
    replace H:=Lib.hid (M62.out.rdM H.out N_b2.out)
    replace OE:=Lib.hid (M62.out.owns OE.out OEN.out)
    replace EW:=zwe M62 EW O_b2
    clear h400
    go_wp2_with ((with_reducible refine zst (L:=[44,41,31,100]) ?_ ?_); exact rfl)
    unfold Hid
    clear h400i
    refine wpList_loadW rfl 44 (.tmp 6) rfl b1 rfl B_b1 Tryz.underlying44 (by kernel_rfl) (fun v28 H_v28=>?_)
    have q0:=cell_of (i:=0) B_b2.out rfl
    have q1:=cell_of (i:=1) B_b2.out rfl
    go_wp2_with fail
    clear q0 q1
    rw [show _ = Value.agg #[.slice ca mk.store.cells.length cc,.slice ua mk.store.undo.length uc,.slice aa mk.store.answers.length ac,.slice pa mk.store.past.length pc,I mk.server.gen,.slice xa mk.server.box.length xc,.bool mk.server.busy,I mk.server.now.client,I mk.server.now.token,I mk.server.now.call.kind,I mk.server.now.call.name,I mk.server.now.call.other,I mk.server.now.call.n,.slice la mk.server.plan.length lc,I mk.server.says.err,I mk.server.says.n,.bool mk.up,I mk.pause,I mk.falls,.slice ka mk.clients.length kc] from H_v28.out]
    refine (refDo_keeps mk _ _ _ _ _ _ _ kd sn w62_ E H.out FIT.out).to fun r w9 e9 hr=>?_
    obtain ⟨m2,er,hD⟩ : ∃ x y,doM mk kd sn = (x,y):=⟨_,_,rfl⟩
    rw [hD] at hr
    have HD:=Lib.hid hD
    clear hD H_v28
    simp only [] at hr
    obtain ⟨cs,rfl,hcs⟩:=rd_tupE hr
    obtain ⟨c2,u2,a2,p2,box2,plan2,cl2,rfl,hm2⟩:=rd_mc hcs
    obtain ⟨ca2,cc2,ua2,uc2,aa2,ac2,pa2,pc2,xa2,xc2,la2,lc2,ka2,kc2,rfl,rfl,rfl,rfl,rfl,rfl,rfl⟩:=hm2.slices
    clear hcs hr H
    have H:=Lib.hid hm2
    clear hm2
    have SC : Hid (b2 < w62_.heap.size):=(Array.getElem?_eq_some_iff.1 B_b2.out).1
    have SC9 : Hid (w62_.heap.size ≤ w9.heap.size):=e9.size
    have OES : Hid (∀ g,(Value.slice ea k ecap).ownBlock = some g → g < b2):=fun g hg=>by have q:=(OE0.out.lt g hg).2; have q1:=(Array.getElem?_eq_some_iff.1 B_b2.out).1; have q2:=B2AT.out; omega
    replace B_b0:=zbx B_b0 e9
    replace B_b1:=zbx B_b1 e9
    replace B_b2:=zbx B_b2 e9
    replace OE:=Lib.hid (owns_ext OE.out e9)
    replace EW:=Lib.hid (EW.out.trans e9)
    clear e9
    go_wp2_with ((with_reducible refine zst (L:=[44,41,31,100]) ?_ ?_); exact rfl)
    unfold Hid
    refine wpList_allocB rfl 44 #[.slice none 0 0,.slice none 0 0,.slice none 0 0,.slice none 0 0,I 0,.slice none 0 0,.bool false,I 0,I 0,I 0,I 0,I 0,I 0,.slice none 0 0,I 0,I 0,.bool false,I 0,I 0,.slice none 0 0] (by kernel_rfl) (fun b3 w63_ M63=>?_)
    have D_b0_b3:=zld B_b0 M63
    have D_b1_b3:=zld B_b1 M63
    have D_b2_b3:=zld B_b2 M63
    replace B_b0:=zmo M63 B_b0
    replace B_b1:=zmo M63 B_b1
    replace B_b2:=zmo M63 B_b2
    have B_b3:=zmb M63
    replace OE:=Lib.hid (owns_ext OE.out M63.out.ext)
    replace EW:=zet EW M63
    obtain ⟨E2,HE2⟩ : ∃ X : Nat → Prop,Hid (∀ k,X k ↔ ((E k ∨ w62_.heap.size ≤ k) ∧ k < b3)):=⟨_,fun _=>Iff.rfl⟩
    replace H:=Lib.hid ((H.out.widen (B:=E2) (fun k hk h=>(HE2.out k).2 ⟨h,by have q:=M63.out.at_; omega⟩)).ext M63.out.ext)
    have N_b3 : Hid (¬ E2 b3):=fun h=>by have q:=((HE2.out _).1 h).2; omega
    replace N_b1 : Hid (¬ E2 b1):=fun h=>by rcases ((HE2.out _).1 h).1 with q | q; exact N_b1.out q; exact absurd q (by have q1:=D_b1_b2.out; have q2:=SC.out; omega)
    replace N_b0 : Hid (¬ E2 b0):=fun h=>by rcases ((HE2.out _).1 h).1 with q | q; exact N_b0.out q; exact absurd q (by have q1:=D_b0_b1.out; have q3:=D_b1_b2.out; have q2:=SC.out; omega)
    have HG : Hid (∀ g,(Value.slice ea k ecap).ownBlock = some g → ¬ E2 g):=fun g hg h=>by rcases ((HE2.out _).1 h).1 with q | q; exact HES.out g hg q; exact absurd q (by have q1:=OES.out g hg; have q2:=SC.out; omega)
    have HIN : Hid (∀ j,E2 j → j < b3 ∧ (A j ∨ w.heap.size ≤ j)):=fun j h=>⟨((HE2.out _).1 h).2,by rcases ((HE2.out _).1 h).1 with q | q; exact (HE.out j q).2; exact .inr (by have q1:=O_b2.out; have q2:=SC.out; omega)⟩
    have O_b3 : Hid (w.heap.size ≤ b3):=by unfold Hid; have q:=D_b1_b3.out; have q2:=O_b1.out; omega
    clear HE2 HES HE N_b2
    go_wp2_with ((with_reducible refine zst (L:=[44,41,31,100]) ?_ ?_); exact rfl)
    unfold Hid
    refine wpList_storeW rfl 44 (.tmp 11) (.tmp 31) rfl b3 rfl [.slice ca2 m2.store.cells.length cc2,.slice ua2 m2.store.undo.length uc2,.slice aa2 m2.store.answers.length ac2,.slice pa2 m2.store.past.length pc2,I m2.server.gen,.slice xa2 m2.server.box.length xc2,.bool m2.server.busy,I m2.server.now.client,I m2.server.now.token,I m2.server.now.call.kind,I m2.server.now.call.name,I m2.server.now.call.other,I m2.server.now.call.n,.slice la2 m2.server.plan.length lc2,I m2.server.says.err,I m2.server.says.n,.bool m2.up,I m2.pause,I m2.falls,.slice ka2 m2.clients.length kc2] (rfl) B_b3 rfl (by kernel_rfl) rfl (fun w64_ M64=>?_)
    replace B_b0:=zwl M64 B_b0 D_b0_b3
    replace B_b1:=zwl M64 B_b1 D_b1_b3
    replace B_b2:=zwl M64 B_b2 D_b2_b3
    replace B_b3:=zwb M64
    replace H:=Lib.hid (M64.out.rdM H.out N_b3.out)
    replace OE:=Lib.hid (M64.out.owns OE.out (fun e=>by have q:=OES.out _ e; have q2:=D_b2_b3.out; omega))
    replace EW:=zwe M64 EW O_b3
    go_wp2_with ((with_reducible refine zst (L:=[44,41,31,100]) ?_ ?_); exact rfl)
    unfold Hid
    refine wpList_loadW rfl 44 (.tmp 11) rfl b3 rfl B_b3 Tryz.underlying44 (by kernel_rfl) (fun v33 H_v33=>?_)
    go_wp2_with ((with_reducible refine zst (L:=[44,41,31,100]) ?_ ?_); exact rfl)
    unfold Hid
    refine wpList_storeW rfl 44 (.tmp 6) (.tmp 33) rfl b1 rfl _ (zcv H_v33) B_b1 rfl (by kernel_rfl) rfl (fun w65_ M65=>?_)
    replace B_b0:=zwl M65 B_b0 D_b0_b1
    replace B_b1:=zwb M65
    replace B_b2:=zwg M65 B_b2 D_b1_b2
    replace B_b3:=zwg M65 B_b3 D_b1_b3
    replace H:=Lib.hid (M65.out.rdM H.out N_b1.out)
    replace OE:=Lib.hid (M65.out.owns OE.out (fun e=>by have q:=(OE.out.lt _ e).1; omega))
    replace EW:=zwe M65 EW O_b1
    go_wp2_with ((with_reducible refine zst (L:=[44,41,31,100]) ?_ ?_); exact rfl)
    unfold Hid
    refine wpList_litB rfl 37 1 #[I er] (by kernel_rfl) (fun bl w66_ M66=>?_)
    have D_b0_bl:=zld B_b0 M66
    have D_b1_bl:=zld B_b1 M66
    have D_b2_bl:=zld B_b2 M66
    have D_b3_bl:=zld B_b3 M66
    replace B_b0:=zmo M66 B_b0
    replace B_b1:=zmo M66 B_b1
    replace B_b2:=zmo M66 B_b2
    replace B_b3:=zmo M66 B_b3
    have B_bl:=zmb M66
    replace H:=Lib.hid (H.out.ext M66.out.ext)
    replace OE:=Lib.hid (owns_ext OE.out M66.out.ext)
    replace EW:=zet EW M66
    go_wp2_with (first | (at_builtin; refine stop_at ?_) | ((with_reducible refine zst (L:=[44,41,31,100]) ?_ ?_); exact rfl))
    unfold Hid
    have hlit:=Row.of_owns (own_made (base:=0) (size:=1) (n:=1) M66.out (Nat.zero_le _) rfl (by decide))
    have hszl : b1 + 1 ≤ w66_.heap.size:=(Array.getElem?_eq_some_iff.1 B_b1.out).1
    have SB3 : Hid (b3 < w66_.heap.size):=(Array.getElem?_eq_some_iff.1 B_b3.out).1
    refine wpList_append_fresh rfl (.tmp 34) (.tmp 36) 45 rfl (b1 + 1) 37 j0 (.int .i64 0) 1 8 Tryz.underlying45 HJ.out hy0 hy1 hy2 rfl (by decide) (.slice ea k ecap) k _ rfl OE.out _ rfl 1 _ hlit (ones_of rfl) (by omega) (by decide) hszl ?_
    intro v37 wq ho hg hfr
    clear hlit hszl
    have hlo : ∀ b,b ≤ b1 → (Value.slice ea k ecap).ownBlock ≠ some b:=fun b hb e=>by have:=(OE.out.lt b e).1; omega
    have kb0:=keep_blk hg B_b0.out (hlo b0 (Nat.le_of_lt D_b0_b1.out))
    have kb1:=keep_blk hg B_b1.out (hlo b1 (Nat.le_refl _))
    have kew : Ext w wq:=EW.out.grown hg (fun b e=>by have q:=(OE.out.lt b e).1; have q2:=O_b1.out; omega)
    have kh : RdM E2 wq m2 _ _ _ _ _ _ _:=⟨H.out.cells.grown hg HG.out,H.out.undo.grown hg HG.out,H.out.answers.grown hg HG.out,H.out.past.grown hg HG.out,H.out.box.grown hg HG.out,H.out.plan.grown hg HG.out,H.out.clients.grown hg HG.out⟩
    have ksz : b3 < wq.heap.size:=Nat.lt_of_lt_of_le SB3.out hg.size
    have KF : Hid (∀ g,v37.ownBlock = some g → ¬ E2 g):=fun g hgv h=>by
     rcases hfr with hf | hf
     ·rw [hf] at hgv
      exact HG.out g hgv h
     ·have q:=hf g hgv
      have q2:=(HIN.out g h).1
      have q3:=SB3.out
      omega
    clear B_b0 B_b1 B_b2 B_b3 B_bl EW H hg hfr hlo OE0
    have K0:=Lib.hid kb0
    have K1:=Lib.hid kb1
    have KE:=Lib.hid kew
    have KH:=Lib.hid kh
    have KO:=Lib.hid ho
    have KS:=Lib.hid ksz
    clear kb0 kb1 kew kh ho ksz OE
    obtain ⟨na,ncap,rfl⟩:=own_slice' KO.out
    go_wp2
    go_roundw
    case rel =>
     have hp : m2 = playM (newMc l) (steps.take (k + 1)):=by
      rw [HT.out,playM_snoc,← HM.out]
      exact (congrArg Prod.fst HD.out).symm
     have he : playE (newMc l) (steps.take (k + 1)) = playE (newMc l) (steps.take k) ++ [er]:=by
      rw [HT.out,playE_snoc,← HM.out]
      have q:=congrArg Prod.snd HD.out
      simp only [] at q
      rw [q]
     refine ⟨k + 1,E2,m2,_,_,_,_,_,_,_,by omega,by omega,by go_num,hp,KH.out,fun j hj=>⟨by have q:=(HIN.out j hj).1; have q2:=KS.out; omega,(HIN.out j hj).2⟩,N_b0.out,N_b1.out,KF.out,K0.out,K1.out,?_,KE.out⟩
     rw [he,List.map_append]
     exact KO.out
    case measure=>simp [intOf]; omega
  ·have hkl : k = steps.length:=by omega
   subst hkl
   go_wp2_with ((with_reducible refine zst (L:=[44,41,31,100]) ?_ ?_); exact rfl)
   unfold Hid
   refine wpList_loadW rfl 44 (.tmp 6) rfl b1 rfl B_b1 Tryz.underlying44 (by kernel_rfl) (fun v39 H_v39=>?_)
   go_wp2_with ((with_reducible refine zst (L:=[44,41,31,100]) ?_ ?_); exact rfl)
   unfold Hid
   refine wpList_storeW rfl 44 (.tmp 4) (.tmp 39) rfl b0 rfl _ (zcv H_v39) B_b0 rfl (by kernel_rfl) rfl (fun w41_ M41=>?_)
   replace B_b0:=zwb M41
   replace B_b1:=zwg M41 B_b1 D_b0_b1
   replace H:=Lib.hid (M41.out.rdM H.out N_b0.out)
   replace OE:=Lib.hid (M41.out.owns OE.out (fun e=>by have q:=(OE.out.lt _ e).1; have q2:=D_b0_b1.out; omega))
   replace EW:=zwe M41 EW O_b0
   go_wp2
   have z0:=run_box (P:=Tryz.prog) 44 B_b0.out Tryz.underlying44 (by kernel_rfl)
   refine bodyPost_ret (by simp [results,Tryz.results7,asAddr,z0]; rfl) rfl ?_
   have ht : steps.take steps.length = steps.take 400:=by rw [List.take_length,List.take_of_length_le h4]
   have hmm:=HM.out
   rw [ht] at hmm
   have hoe:=OE.out
   rw [ht] at hoe
   have r1:=(H.out.widen (B:=fun k=>A k ∨ w.heap.size ≤ k) (fun k _ h=>(HE.out k h).2)).mc
   rw [hmm] at r1
   have r2:=(rd_owns hoe).widen (B:=fun k=>A k ∨ w.heap.size ≤ k) (fun k _ h=>.inr (by have q:=O_b1.out; omega))
   have hlen : (playE (newMc l) (steps.take 400)).length = steps.length:=by have q:=hoe.1; simpa using q
   refine ⟨_,rfl,EW.out,(r1.and r2).imp fun w' h=>⟨_,_,(by rw [← hmm]),h.1,?_⟩⟩
   have h2:=h.2
   unfold Ints
   rw [hlen]
   exact h2

end Go.Proofs.YtdmipnnfooleladGreat

namespace Go.Proofs.YtdmipnnfooleladGreat
open Go.RowKit Go.Mk
set_option maxRecDepth 100000

/-- Requests, place by place. -/
theorem rqs_form {w : World} {v : Value} {l : List Rq} (h : RowOf 6 elRq w v l) : ∃ ao cap,v = .slice ao l.length cap ∧ l.length ≤ cap ∧ cap ≤ maxLen ∧
  ∀ k r,l[k]? = some r → ∃ b off,ao = some ⟨b,off,none⟩ ∧ w.cell? ⟨b,off + k * 6,none⟩ = some (I r.client) ∧ w.cell? ⟨b,off + k * 6 + 1,none⟩ = some (I r.token) ∧ w.cell? ⟨b,off + k * 6 + 2,none⟩ = some (I r.call.kind) ∧
   w.cell? ⟨b,off + k * 6 + 3,none⟩ = some (I r.call.name) ∧ w.cell? ⟨b,off + k * 6 + 4,none⟩ = some (I r.call.other) ∧ w.cell? ⟨b,off + k * 6 + 5,none⟩ = some (I r.call.n):=(rowOf_reqs.1 h).form

set_option maxHeartbeats 1000000 in
theorem sameStore_eq (c u a p c' u' a' p' : Value) (s : St) (w : World) (h : elSt w [c,u,a,p] s) (h' : elSt w [c',u',a',p'] s) :
  Calls Tryz.prog 14 #[.agg #[c,u,a,p],.agg #[c',u',a',p']] w fun e w'=>e = .returned (.bool true) ∧ Ext w w':=by
 obtain ⟨h1,h2,h3,h4⟩:=st_iff.1 h
 obtain ⟨k1,k2,k3,k4⟩:=st_iff.1 h'
 clear h h'
 obtain ⟨aa,ac,rfl,g1,g2,g3⟩:=ans_form h3
 obtain ⟨ba,bc,rfl,_,f2,f3⟩:=ans_form k3
 obtain ⟨pa,pc,rfl,_,m2,m3⟩:=rqs_form h4
 obtain ⟨qa,qc,rfl,_,n2,n3⟩:=rqs_form k4
 unfold maxLen at g2 f2 m2 n2
 clear h3 k3 h4 k4
 have e0 : Ext w ((w.alloc (.cells #[c,u,.slice aa s.answers.length ac,.slice pa s.past.length pc] 31)).alloc (.cells #[c',u',.slice ba s.answers.length bc,.slice qa s.past.length qc] 31)):=((Ext.refl w).alloc _).alloc _
 have HB:=Lib.hid (fun wx (h : Ext ((w.alloc (.cells #[c,u,.slice aa s.answers.length ac,.slice pa s.past.length pc] 31)).alloc (.cells #[c',u',.slice ba s.answers.length bc,.slice qa s.past.length qc] 31)) wx)=>And.intro (first_block h) (second_block h))
 have hst : Tryz.prog.stoodInHeld 59 = false:=by kernel_rfl
 have hgd : Tryz.prog.eqGuardType Tryz.prog.depth 59 = false:=by kernel_rfl
 have hst2 : Tryz.prog.stoodInHeld 36 = false:=by kernel_rfl
 have hgd2 : Tryz.prog.eqGuardType Tryz.prog.depth 36 = false:=by kernel_rfl
 have G3:=Lib.hid g3
 have F3:=Lib.hid f3
 have M3:=Lib.hid m3
 have N3:=Lib.hid n3
 clear g3 f3 m3 n3
 generalize s.answers = al at *
 generalize s.past = pl at *
 go_enter Tryz.func14,Tryz.ntmps14
 go_wp2_with fail
 generalize hw0 : (w.alloc (.cells #[c,u,.slice aa al.length ac,.slice pa pl.length pc] 31)).alloc (.cells #[c',u',.slice ba al.length bc,.slice qa pl.length qc] 31) = w0 at *
 clear hw0
 refine (sameInts_eq rfl (h1.ext e0) (k1.ext e0)).to fun r w1 e1 hr=>?_
 subst hr
 obtain ⟨b0,b1⟩:=HB.out w1 e1
 obtain ⟨x0,x1,x2,x3,-⟩:=box4 b0
 obtain ⟨y0,y1,y2,y3,-⟩:=box4 b1
 go_wp2_with fail
 clear x0 x1 x2 x3 y0 y1 y2 y3 b0 b1
 refine (sameWrites_eq rfl (h2.ext (e0.trans e1)) (k2.ext (e0.trans e1))).to fun r w2 e2 hr=>?_
 subst hr
 replace e2:=e1.trans e2
 clear e1 h1 h2 k1 k2
 obtain ⟨b0,b1⟩:=HB.out w2 e2
 obtain ⟨x0,x1,x2,x3,-⟩:=box4 b0
 obtain ⟨y0,y1,y2,y3,-⟩:=box4 b1
 go_wp2
 clear x0 x1 x2 x3 y0 y1 y2 y3 b0 b1
 go_loopw [42] (fun i wr=>∃ k : Nat,k ≤ al.length ∧ i = I k ∧ Ext w0 wr) (fun i _=>al.length - (intOf i).toNat)
 case atStart=>exact ⟨0,by omega,rfl,e2⟩
 case round =>
  obtain ⟨k,hk,rfl,he⟩:=hrel
  by_cases hlt : k < al.length
  ·obtain ⟨x,hx⟩ : ∃ x,al[k]? = some x:=⟨al[k],List.getElem?_eq_getElem hlt⟩
   obtain ⟨b,off,rfl,c0,c1,c2,c3⟩:=G3.out k x hx
   obtain ⟨b',off',rfl,d0,d1,d2,d3⟩:=F3.out k x hx
   clear hx
   have mr : Ext w wr:=e0.trans he
   replace c0:=mr.cell c0
   replace c1:=mr.cell c1
   replace c2:=mr.cell c2
   replace c3:=mr.cell c3
   replace d0:=mr.cell d0
   replace d1:=mr.cell d1
   replace d2:=mr.cell d2
   replace d3:=mr.cell d3
   obtain ⟨b0,b1⟩:=HB.out wr he
   obtain ⟨x0,x1,x2,x3,-⟩:=box4 b0
   obtain ⟨y0,y1,y2,y3,-⟩:=box4 b1
   obtain ⟨xc,xt,⟨xe,xn⟩⟩:=x
   go_wp2_with fail
   refine wp_region_mono [none,none,none,none,none,none,none,none,none,none,none] (by kernel_rfl) (by kernel_rfl) ?_ ?_
   ·exact ⟨trivial,trivial,trivial,trivial,trivial,trivial,trivial,trivial,trivial,trivial,trivial,trivial⟩
   iterate 1 (refine wpM_p (fun K hK=>?_); go_simp; first | refine hK _ ?_ | refine ⟨(fun h=>by cases h),hK _ ?_⟩; clear hK K)
   refine wpM_q (.slice (some ⟨b,off,none⟩) al.length ac) rfl (fun w' hw'=>by have q0:=hw'.cell x2; go_simp) ?_
   refine wpM_norm (fun K hK=>?_); go_simp; refine hK _ ?_; clear hK K
   iterate 2 (refine wpM_p (fun K hK=>?_); go_simp; first | refine hK _ ?_ | refine ⟨(fun h=>by cases h),hK _ ?_⟩; clear hK K)
   refine wpM_q (.agg #[I xc,I xt,I xe,I xn]) rfl (fun w' hw'=>by have q0:=hw'.cell c0; have q1:=hw'.cell c1; have q2:=hw'.cell c2; have q3:=hw'.cell c3; go_simp) ?_
   refine wpM_norm (fun K hK=>?_); go_simp; refine hK _ ?_; clear hK K
   iterate 1 (refine wpM_p (fun K hK=>?_); go_simp; first | refine hK _ ?_ | refine ⟨(fun h=>by cases h),hK _ ?_⟩; clear hK K)
   refine wpM_q (.slice (some ⟨b',off',none⟩) al.length bc) rfl (fun w' hw'=>by have q0:=hw'.cell y2; go_simp) ?_
   refine wpM_norm (fun K hK=>?_); go_simp; refine hK _ ?_; clear hK K
   iterate 2 (refine wpM_p (fun K hK=>?_); go_simp; first | refine hK _ ?_ | refine ⟨(fun h=>by cases h),hK _ ?_⟩; clear hK K)
   refine wpM_q (.agg #[I xc,I xt,I xe,I xn]) rfl (fun w' hw'=>by have q0:=hw'.cell d0; have q1:=hw'.cell d1; have q2:=hw'.cell d2; have q3:=hw'.cell d3; go_simp) ?_
   refine wpM_norm (fun K hK=>?_); go_simp; refine hK _ ?_; clear hK K
   iterate 1 (refine wpM_p (fun K hK=>?_); go_simp; first | refine hK _ ?_ | refine ⟨(fun h=>by cases h),hK _ ?_⟩; clear hK K)
   refine wpM_nil ?_
   intro wn hen _
   clear c0 c1 c2 c3 d0 d1 d2 d3 x0 x1 x2 x3 y0 y1 y2 y3 b0 b1
   go_wp2
   go_roundw
   case rel=>exact ⟨k + 1,by omega,by go_num,he.trans hen⟩
   case measure=>simp [intOf]; omega
  ·have mr : Ext w wr:=e0.trans he
   obtain ⟨b0,b1⟩:=HB.out wr he
   obtain ⟨x0,x1,x2,x3,-⟩:=box4 b0
   clear b0 b1
   go_wp2
   clear x0 x1 x2 x3
   go_loopw [60] (fun i wr=>∃ k : Nat,k ≤ pl.length ∧ i = I k ∧ Ext w0 wr) (fun i _=>pl.length - (intOf i).toNat)
   case atStart=>exact ⟨0,by omega,rfl,he⟩
   case round =>
    clear he mr
    obtain ⟨k,hk,rfl,he⟩:=hrel
    by_cases hlt : k < pl.length
    ·obtain ⟨x,hx⟩ : ∃ x,pl[k]? = some x:=⟨pl[k],List.getElem?_eq_getElem hlt⟩
     obtain ⟨b,off,rfl,c0,c1,c2,c3,c4,c5⟩:=M3.out k x hx
     obtain ⟨b',off',rfl,d0,d1,d2,d3,d4,d5⟩:=N3.out k x hx
     clear hx
     have mr : Ext w wr:=e0.trans he
     replace c0:=mr.cell c0
     replace c1:=mr.cell c1
     replace c2:=mr.cell c2
     replace c3:=mr.cell c3
     replace c4:=mr.cell c4
     replace c5:=mr.cell c5
     replace d0:=mr.cell d0
     replace d1:=mr.cell d1
     replace d2:=mr.cell d2
     replace d3:=mr.cell d3
     replace d4:=mr.cell d4
     replace d5:=mr.cell d5
     obtain ⟨b0,b1⟩:=HB.out wr he
     obtain ⟨x0,x1,x2,x3,-⟩:=box4 b0
     obtain ⟨y0,y1,y2,y3,-⟩:=box4 b1
     obtain ⟨xc,xt,⟨xk,xa,xo,xn⟩⟩:=x
     go_wp2_with fail
     refine wp_region_mono [none,none,none,none,none,none,none,none,none,none,none] (by kernel_rfl) (by kernel_rfl) ?_ ?_
     ·exact ⟨trivial,trivial,trivial,trivial,trivial,trivial,trivial,trivial,trivial,trivial,trivial,trivial⟩
     iterate 1 (refine wpM_p (fun K hK=>?_); go_simp; first | refine hK _ ?_ | refine ⟨(fun h=>by cases h),hK _ ?_⟩; clear hK K)
     refine wpM_q (.slice (some ⟨b,off,none⟩) pl.length pc) rfl (fun w' hw'=>by have q0:=hw'.cell x3; go_simp) ?_
     refine wpM_norm (fun K hK=>?_); go_simp; refine hK _ ?_; clear hK K
     iterate 2 (refine wpM_p (fun K hK=>?_); go_simp; first | refine hK _ ?_ | refine ⟨(fun h=>by cases h),hK _ ?_⟩; clear hK K)
     refine wpM_q (.agg #[I xc,I xt,I xk,I xa,I xo,I xn]) rfl (fun w' hw'=>by have q0:=hw'.cell c0; have q1:=hw'.cell c1; have q2:=hw'.cell c2; have q3:=hw'.cell c3; have q4:=hw'.cell c4; have q5:=hw'.cell c5; go_simp) ?_
     refine wpM_norm (fun K hK=>?_); go_simp; refine hK _ ?_; clear hK K
     iterate 1 (refine wpM_p (fun K hK=>?_); go_simp; first | refine hK _ ?_ | refine ⟨(fun h=>by cases h),hK _ ?_⟩; clear hK K)
     refine wpM_q (.slice (some ⟨b',off',none⟩) pl.length qc) rfl (fun w' hw'=>by have q0:=hw'.cell y3; go_simp) ?_
     refine wpM_norm (fun K hK=>?_); go_simp; refine hK _ ?_; clear hK K
     iterate 2 (refine wpM_p (fun K hK=>?_); go_simp; first | refine hK _ ?_ | refine ⟨(fun h=>by cases h),hK _ ?_⟩; clear hK K)
     refine wpM_q (.agg #[I xc,I xt,I xk,I xa,I xo,I xn]) rfl (fun w' hw'=>by have q0:=hw'.cell d0; have q1:=hw'.cell d1; have q2:=hw'.cell d2; have q3:=hw'.cell d3; have q4:=hw'.cell d4; have q5:=hw'.cell d5; go_simp) ?_
     refine wpM_norm (fun K hK=>?_); go_simp; refine hK _ ?_; clear hK K
     iterate 1 (refine wpM_p (fun K hK=>?_); go_simp; first | refine hK _ ?_ | refine ⟨(fun h=>by cases h),hK _ ?_⟩; clear hK K)
     refine wpM_nil ?_
     intro wn hen _
     clear c0 c1 c2 c3 c4 c5 d0 d1 d2 d3 d4 d5 x0 x1 x2 x3 y0 y1 y2 y3 b0 b1
     go_wp2
     go_roundw
     case rel=>exact ⟨k + 1,by omega,by go_num,he.trans hen⟩
     case measure=>simp [intOf]; omega
    ·go_wp2
     go_ret
     exact ⟨rfl,e0.trans he⟩

end Go.Proofs.YtdmipnnfooleladGreat

namespace Go.Proofs.YtdmipnnfooleladGreat
open Go.RowKit Go.Mk
set_option maxRecDepth 100000

theorem zgr {w : World} {B C : Nat → Prop} {b : Nat} {x : Obj} (h : Hid (∀ k,C k ↔ (B k ∨ w.heap.size ≤ k))) (n : Hid (¬ B b)) (hb : Hid (w.heap[b]? = some x)) : Hid (¬ C b):=fun q=>by
 rcases (h.out _).1 q with q | q
 ·exact n.out q
 ·have:=(Array.getElem?_eq_some_iff.1 hb.out).1
  omega
theorem small_sy {s : St} {v : Sv} {k : Nat} (h : Sy s v k) (hk : k ≤ 500) : Small s ∧ SmallV v:=by
 have h1:=h.wk.cells.1
 have h2:=h.undo
 have h3:=h.answers
 have h4:=h.past
 have h5:=h.box
 have h6:=h.plan
 unfold Small SmallV
 exact ⟨⟨by omega,by omega,by omega,by omega⟩,by omega,h.bytes,by omega⟩

end Go.Proofs.YtdmipnnfooleladGreat
