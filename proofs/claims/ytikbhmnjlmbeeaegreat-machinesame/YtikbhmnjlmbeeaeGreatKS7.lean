/- Texts of the proof, merged: N17 J1. -/
import Derived.Test.YtikbhmnjlmbeeaeGreatKSA
import Derived.Test.YtikbhmnjlmbeeaeGreatKS6
import Derived.Test.YtikbhmnjlmbeeaeGreatKSI
import Derived.Test.YtikbhmnjlmbeeaeGreatKSH
import Derived.Test.YtikbhmnjlmbeeaeGreatKSF
import Derived.Test.YtikbhmnjlmbeeaeGreatKS3
set_option maxHeartbeats 4000000
set_option maxRecDepth 100000

namespace Go.Proofs.YtikbhmnjlmbeeaeGreat
open Go.RowKit Go.Mk

theorem Tryz.infoErrno : (Tryz.prog.info? 37).map (fun i=>(i.zero,i.size,i.bytes)) = some (some (.int .i64 0),1,8):=by kernel_rfl

def zfP (m : Mc) : List (Int × Int) -> List Int
 | []=>[]
 | p :: l=>(doM m p.1 p.2).2 :: zfP (doM m p.1 p.2).1 l
theorem playE_snoc (p : Int × Int) : ∀ (l : List (Int × Int)) (m : Mc),zfP m (l ++ [p]) = zfP m l ++ [(doM (zel m l) p.1 p.2).2]
 | [],m=>rfl
 | q :: l,m=>by
  show (doM m q.1 q.2).2 :: zfP (doM m q.1 q.2).1 (l ++ [p]) = _
  rw [playE_snoc p l]
  rfl
theorem playM_snoc (p : Int × Int) (l : List (Int × Int)) (m : Mc) : zel m (l ++ [p]) = (doM (zel m l) p.1 p.2).1:=by
 unfold zel
 rw [List.foldl_append]
 rfl
theorem zm2 {l : List (Int × Int)} {k : Nat} (h : k < l.length) : l.take (k + 1) = l.take k ++ [l.getD k (0,0)]:=by
 rw [List.take_add_one,List.getElem?_eq_getElem h,List.getD_eq_getElem?_getD,List.getElem?_eq_getElem h]
 rfl
theorem znL {l : List (List Cl)} (hl : zbF l) (steps : List (Int × Int)) {k : Nat} (hk : k <= 400) : Fit (zel (zbb l) (steps.take k)):=by
 obtain ⟨ks,bz,h⟩:=zmD hl (steps.take k)
 have hs:=zjY (ziJ l) (steps.take k)
 exact znY hl h (hs.mono (j:=400) (by rw [List.length_take]; omega)) (by omega)

def znR (l : List (List Cl)) (steps : List (Int × Int)) (r : Value) (w : World) : Prop:=∃ (cs : List Value) (es : Value),r = .tuple #[.agg cs.toArray,es] /\ zdW w cs (zel (zbb l) (steps.take 400)) /\ zbN w es (zfP (zbb l) (steps.take 400))
theorem zpF {l : List (List Cl)} {steps : List (Int × Int)} {r : Value} {A : Nat -> Prop} {w : World} (h : Rd A (znR l steps r) w) : ∃ (cs : List Value) (es : Value),r = .tuple #[.agg cs.toArray,es] /\ Rd A (fun w=>zdW w cs (zel (zbb l) (steps.take 400))) w /\ Rd A (fun w=>zbN w es (zfP (zbb l) (steps.take 400))) w:=by
 obtain ⟨cs,es,e1,h1,h2⟩:=h.o
 have key : ∀ w',znR l steps r w' -> zdW w' cs (zel (zbb l) (steps.take 400)) /\ zbN w' es (zfP (zbb l) (steps.take 400)):=fun w' hw=>by
  obtain ⟨cs',es',e1',h3,h4⟩:=hw
  rw [e1] at e1'
  simp only [Value.tuple.injEq,Array.mk.injEq,List.cons.injEq,Value.agg.injEq,and_true] at e1'
  obtain ⟨q1,q2⟩:=e1'
  have q1 : cs = cs':=by simpa using q1
  subst q1 q2
  exact ⟨h3,h4⟩
 exact ⟨cs,es,e1,h.imp fun w' hw=>(key w' hw).1,h.imp fun w' hw=>(key w' hw).2⟩

theorem zjl (v sv : Value) (l : List (List Cl)) (steps : List (Int × Int)) (w : World) (A : Nat -> Prop) (hl : zbF l) (hv : Rd A (fun w=>zax 1 zfa w v l) w) (hs : zay w sv steps) :
  zaS Tryz.prog 9 #[v,sv] w A (znR l steps):=by
 unfold zaS;obtain ⟨sa0,scap,rfl,s1,s2,s3⟩:=hs.form;unfold maxLen at s2;have HS3:=hd s3;have HL:=hd hl;have HV:=hd (hv.widen (B:=fun k=>A k /\ k < w.heap.size) (fun k hk h=>⟨h,hk⟩));clear hv hs s3 hl;obtain ⟨va,vcap,rfl⟩:=zaf HV.o.o;obtain ⟨j0,hj,hy0,hy1,hy2⟩:=info_parts Tryz.infoErrno;have HJ:=hd hj;clear hj;have EW:=hd (Ext.refl w);go_enter Tryz.func9,Tryz.ntmps9
 go_wp2_with ((with_reducible refine zT ?_ ?_); exact rfl)
 unfold Hid;refine zae rfl 44 zM (by kernel_rfl) (fun b0 w1_ M1=>?_);have zaa:=zmb M1;have za1 : Hid (w.heap.size <= b0):=by unfold Hid; have q:=M1.o.at_; omega
 go_wp2_with fail
 refine (zg5 _ l w1_ (fun k=>A k /\ k < w.heap.size) (HV.o.ext M1.o.ext)).to fun r w2 e2 hr=>?_;obtain ⟨cs,e,rfl,hc⟩:=zl8 hr;replace EW:=zet EW M1;rcases hc with ⟨rfl,-,hm⟩ | ⟨-,-,hno⟩
 case inr=>exact absurd HL.o hno
 obtain ⟨c,u,a,p,box,plan,cl,rfl,hM⟩:=zdb hm;obtain ⟨ca,cc,ua,uc,aa,ac,pa,pc,xa,xc,la,lc,ka,kc,rfl,rfl,rfl,rfl,rfl,rfl,rfl⟩:=hM.slices;have H:=hd hM;clear hM hm hr;have e2':=hd e2;replace zaa:=zbx zaa e2;replace EW:=hd (EW.o.trans e2);clear e2;go_wp2_with ((with_reducible refine zT ?_ ?_); exact rfl)
 unfold Hid;refine zae rfl 44 zM (by kernel_rfl) (fun b1 w2_ M2=>?_);have zao:=zld zaa M2;have zad:=zmb M2;have zaU : Hid (w.heap.size <= b1):=by unfold Hid; have q:=zao.o; have q2:=za1.o; omega
 obtain ⟨E,HE⟩ : ∃ E : Nat -> Prop,Hid (∀ k,E k ↔ (((A k /\ k < w.heap.size) ∨ w1_.heap.size <= k) /\ k < b1)):=⟨_,fun _=>Iff.rfl⟩;replace H:=hd ((H.o.widen (B:=E) (fun k hk h=>(HE.o k).2 ⟨h,by have q:=M2.o.at_; omega⟩)).ext M2.o.ext);have zaq : Hid (¬ E b0):=fun h=>by have q:=((HE.o _).1 h).1; have q1:=M1.o.at_; have q2:=M1.o.size; omega
 have zar : Hid (¬ E b1):=fun h=>by have q:=((HE.o _).1 h).2; omega
 go_wp2_with ((with_reducible refine zT ?_ ?_); exact rfl)
 unfold Hid;refine zac rfl 44 (.tmp 6) (.tmp 16) rfl b1 rfl [.slice ca (zbb l).store.cells.length cc,.slice ua (zbb l).store.undo.length uc,.slice aa (zbb l).store.answers.length ac,.slice pa (zbb l).store.past.length pc,I (zbb l).server.gen,.slice xa (zbb l).server.box.length xc,.bool (zbb l).server.busy,I (zbb l).server.now.client,I (zbb l).server.now.token,I (zbb l).server.now.call.kind,I (zbb l).server.now.call.name,I (zbb l).server.now.call.other,I (zbb l).server.now.call.n,.slice la (zbb l).server.plan.length lc,I (zbb l).server.says.err,I (zbb l).server.says.n,.bool (zbb l).up,I (zbb l).pause,I (zbb l).falls,.slice ka (zbb l).clients.length kc] (rfl) zad rfl zaY rfl (fun w3_ M3=>?_);replace zad:=zwb M3;go_wp2_with fail
 replace zaa:=zwl M3 (zmo M2 zaa) zao;replace EW:=zwe M3 (zet EW M2) zaU;replace H:=zHw M3 H zar;go_loopw [8,20] (fun es i wr=>∃ (k : Nat) (E : Nat -> Prop) (mk : Mc) (c u a p box plan cl : Value),k <= steps.length /\ k <= 400 /\ i = I k /\ mk = zel (zbb l) (steps.take k) /\ RdM E wr mk c u a p box plan cl /\ (∀ j,E j -> j < wr.heap.size /\ (A j ∨ w.heap.size <= j)) /\ ¬ E b0 /\ ¬ E b1 /\ (∀ g,es.ownBlock = some g -> ¬ E g) /\ wr.heap[b0]? = some (.cells zM 44 (0,0)) /\ wr.heap[b1]? = some (.cells (za3 mk c u a p box plan cl).toArray 44 (0,0)) /\ wr.ownsRow (b1 + 1) 37 1 es k ((zfP (zbb l) (steps.take k)).map I) /\ Ext w wr) (fun _ i _=>steps.length - (intOf i).toNat)
 case atStart=>exact ⟨0,E,zbb l,_,_,_,_,_,_,_,Nat.zero_le _,Nat.zero_le _,rfl,rfl,H.o,fun j hj=>⟨by have q:=(HE.o j).1 hj; have q2:=(zlt zad); omega,by rcases ((HE.o j).1 hj).1 with h | h; exact .inl h.1; exact .inr (by have q:=M1.o.ext.size; omega)⟩,zaq.o,zar.o,fun g hg=>(by cases hg),zaa.o,zad.o,World.ownsRow_nil _ _ _ _,EW.o⟩
 case round =>
  obtain ⟨k,E',mk,c',u',a',p',box',plan',cl',hk,h4,rfl,hmk,hm,hE,n0,n1,hes,hb0,hb1,ho,hex⟩:=hrel;clear zaa zad H EW zaq zar HE e2';obtain ⟨ca,cc,ua,uc,aa,ac,pa,pc,xa,xc,la,lc,ka,kc,rfl,rfl,rfl,rfl,rfl,rfl,rfl⟩:=hm.slices;obtain ⟨ea,ecap,rfl⟩:=zcR ho;have HM:=hd hmk;have H:=hd hm;have HE:=hd hE;have zaq:=hd n0;have zar:=hd n1;have HES:=hd hes;have zaa:=hd hb0;have zad : Hid (wr.heap[b1]? = some (.cells #[.slice ca mk.store.cells.length cc,.slice ua mk.store.undo.length uc,.slice aa mk.store.answers.length ac,.slice pa mk.store.past.length pc,I mk.server.gen,.slice xa mk.server.box.length xc,.bool mk.server.busy,I mk.server.now.client,I mk.server.now.token,I mk.server.now.call.kind,I mk.server.now.call.name,I mk.server.now.call.other,I mk.server.now.call.n,.slice la mk.server.plan.length lc,I mk.server.says.err,I mk.server.says.n,.bool mk.up,I mk.pause,I mk.falls,.slice ka mk.clients.length kc] 44 (0,0))):=hb1;have OE:=hd ho;have EW:=hd hex;clear hmk hm hE n0 n1 hes hb0 hb1 ho hex;generalize hEr : (E' : Nat -> Prop) = E at *;clear hEr E';by_cases hlt : k < steps.length
  ·by_cases h400 : k = 400
   ·subst h400;obtain ⟨sb,so,rfl,c0,c1⟩:=HS3.o 400 hlt;replace c0:=EW.o.cell c0;replace c1:=EW.o.cell c1;generalize steps.getD 400 (0,0) = pp at c0 c1;obtain ⟨kd,sn⟩:=pp;simp only [] at c0 c1;have OE0:=OE;go_wp2_with ((with_reducible refine zT ?_ ?_); exact rfl)
    unfold Hid;clear c0 c1;refine zae rfl 25 #[I 0,I 0] (by kernel_rfl) (fun b2 w41_ M41=>?_);have zaA:=zld zaa M41;have zaB:=zld zad M41;have zak:=zmb M41;have zaC : Hid (¬ E b2):=fun h=>by have q:=(HE.o _ h).1; have q1:=M41.o.at_; omega
    have zba : Hid (w.heap.size <= b2):=by unfold Hid; have q:=zaB.o; have q2:=zaU.o; omega
    have OEN : Hid ((Value.slice ea 400 ecap).ownBlock ≠ some b2):=fun e=>by have q:=(OE0.o.lt _ e).2; have q1:=M41.o.at_; omega
    go_wp2_with ((with_reducible refine zT ?_ ?_); exact rfl)
    unfold Hid;refine zac rfl 25 (.tmp 10) (.tmp 24) rfl b2 rfl [I kd,I sn] (rfl) zak rfl zp3 rfl (fun w42_ M42=>?_);replace zak:=zwb M42;go_wp2_with ((with_reducible refine zT ?_ ?_); exact rfl)
    unfold Hid;replace zad:=zwl M42 (zmo M41 zad) zaB;refine zah rfl 44 (.tmp 6) rfl b1 rfl zad zu44 zaY (fun v39 H_v39=>?_);go_wp2_with ((with_reducible refine zT ?_ ?_); exact rfl)
    unfold Hid;replace zaa:=zwl M42 (zmo M41 zaa) zaA;refine zac rfl 44 (.tmp 4) (.tmp 39) rfl b0 rfl _ (zcv H_v39) zaa rfl zaY rfl (fun w43_ M43=>?_);replace zaa:=zwb M43;replace OE:=hd (M42.o.owns (hd (zal OE.o M41.o.ext)).o OEN.o);replace OE:=hd (M43.o.owns OE.o (fun e=>by have q:=(OE.o.lt _ e).1; have q2:=zao.o; omega));go_wp2
    have z0:=zas (P:=Tryz.prog) 44 zaa.o zu44 (by kernel_rfl);refine bodyPost_ret (by simp [results,Tryz.results9,asAddr,z0]; rfl) rfl ?_;have hmm:=HM.o;have hoe:=OE.o;replace H:=zHw M43 (zHw M42 (hd (H.o.ext M41.o.ext)) zaC) zaq;have r1:=(H.o.widen (B:=fun k=>A k ∨ w.heap.size <= k) (fun k _ h=>(HE.o k h).2)).mc;rw [hmm] at r1;have r2:=(zdP hoe).widen (B:=fun k=>A k ∨ w.heap.size <= k) (fun k _ h=>.inr (by have q:=zaU.o; omega));have hlen : (zfP (zbb l) (steps.take 400)).length = 400:=by have q:=hoe.1; simpa using q
    replace EW:=zwe M43 (zwe M42 (zet EW M41) zba) za1;refine ⟨_,rfl,EW.o,(r1.and r2).imp fun w' h=>⟨_,_,(by rw [<- hmm]),h.1,?_⟩⟩;have h2:=h.2;unfold zbN;rw [hlen];exact h2
   ·have h400i : ((k : Int) == 400) = false:=by simpa using (fun h : (k : Int) = 400=>h400 (by omega))
    have hk4 : k < 400:=by omega
    have HT:=hd (zm2 hlt);have FIT:=hd (znL HL.o steps h4);rw [<- HM.o] at FIT;obtain ⟨sb,so,rfl,c0,c1⟩:=HS3.o k hlt;replace c0:=EW.o.cell c0;replace c1:=EW.o.cell c1;generalize steps.getD k (0,0) = pp at *;obtain ⟨kd,sn⟩:=pp;simp only [] at c0 c1;have OE0:=OE;go_wp2_with ((with_reducible refine zT ?_ ?_); exact rfl)
    unfold Hid;clear c0 c1;refine zae rfl 25 #[I 0,I 0] (by kernel_rfl) (fun b2 w61_ M61=>?_);have zaA:=zld zaa M61;have zaB:=zld zad M61;have zak:=zmb M61;have B2AT : Hid (b2 = wr.heap.size):=M61.o.at_;have zaC : Hid (¬ E b2):=fun h=>by have q:=(HE.o _ h).1; have q1:=M61.o.at_; omega
    have zba : Hid (w.heap.size <= b2):=by unfold Hid; have q:=zaB.o; have q2:=zaU.o; omega
    have OEN : Hid ((Value.slice ea k ecap).ownBlock ≠ some b2):=fun e=>by have q:=(OE0.o.lt _ e).2; have q1:=M61.o.at_; omega
    go_wp2_with ((with_reducible refine zT ?_ ?_); exact rfl)
    unfold Hid;refine zac rfl 25 (.tmp 10) (.tmp 24) rfl b2 rfl [I kd,I sn] (rfl) zak rfl zp3 rfl (fun w62_ M62=>?_);replace zak:=zwb M62;clear h400;go_wp2_with ((with_reducible refine zT ?_ ?_); exact rfl)
    unfold Hid;clear h400i;replace zad:=zwl M62 (zmo M61 zad) zaB;refine zah rfl 44 (.tmp 6) rfl b1 rfl zad zu44 zaY (fun v28 H_v28=>?_);have q0:=zab (i:=0) zak.o rfl;have q1:=zab (i:=1) zak.o rfl;go_wp2_with fail
    clear q0 q1;rw [show _ = Value.agg #[.slice ca mk.store.cells.length cc,.slice ua mk.store.undo.length uc,.slice aa mk.store.answers.length ac,.slice pa mk.store.past.length pc,I mk.server.gen,.slice xa mk.server.box.length xc,.bool mk.server.busy,I mk.server.now.client,I mk.server.now.token,I mk.server.now.call.kind,I mk.server.now.call.name,I mk.server.now.call.other,I mk.server.now.call.n,.slice la mk.server.plan.length lc,I mk.server.says.err,I mk.server.says.n,.bool mk.up,I mk.pause,I mk.falls,.slice ka mk.clients.length kc] from H_v28.o];replace H:=zHw M62 (hd (H.o.ext M61.o.ext)) zaC;refine (zlo mk _ _ _ _ _ _ _ kd sn w62_ E H.o FIT.o).to fun r w9 e9 hr=>?_;obtain ⟨m2,er,hD⟩ : ∃ x y,doM mk kd sn = (x,y):=⟨_,_,rfl⟩;rw [hD] at hr;have HD:=hd hD;clear hD H_v28;simp only [] at hr;obtain ⟨cs,rfl,hcs⟩:=zeO hr;obtain ⟨c2,u2,a2,p2,box2,plan2,cl2,rfl,hm2⟩:=zdb hcs;obtain ⟨ca2,cc2,ua2,uc2,aa2,ac2,pa2,pc2,xa2,xc2,la2,lc2,ka2,kc2,rfl,rfl,rfl,rfl,rfl,rfl,rfl⟩:=hm2.slices;clear hcs hr H;have H:=hd hm2;clear hm2;have SC : Hid (b2 < w62_.heap.size):=(zlt zak);have SC9 : Hid (w62_.heap.size <= w9.heap.size):=e9.size;have OES : Hid (∀ g,(Value.slice ea k ecap).ownBlock = some g -> g < b2):=fun g hg=>by have q:=(OE0.o.lt g hg).2; have q1:=(zlt zak); have q2:=B2AT.o; omega
    replace zaa:=zbx (zwl M62 (zmo M61 zaa) zaA) e9;replace OE:=hd (zal (hd (M62.o.owns (hd (zal OE.o M61.o.ext)).o OEN.o)).o e9);replace EW:=hd ((zwe M62 (zet EW M61) zba).o.trans e9);replace zad:=zbx zad e9;replace zak:=zbx zak e9;clear e9;go_wp2_with ((with_reducible refine zT ?_ ?_); exact rfl)
    unfold Hid;refine zae rfl 44 zM (by kernel_rfl) (fun b3 w63_ M63=>?_);have zaZ:=zld zaa M63;have zaQ:=zld zad M63;have za9:=zld zak M63;have zat:=zmb M63;obtain ⟨E2,HE2⟩ : ∃ X : Nat -> Prop,Hid (∀ k,X k ↔ ((E k ∨ w62_.heap.size <= k) /\ k < b3)):=⟨_,fun _=>Iff.rfl⟩;replace H:=hd ((H.o.widen (B:=E2) (fun k hk h=>(HE2.o k).2 ⟨h,by have q:=M63.o.at_; omega⟩)).ext M63.o.ext);have zaP : Hid (¬ E2 b3):=fun h=>by have q:=((HE2.o _).1 h).2; omega
    replace zar : Hid (¬ E2 b1):=fun h=>by rcases ((HE2.o _).1 h).1 with q | q; exact zar.o q; exact absurd q (by have q1:=zaB.o; have q2:=SC.o; omega)
    replace zaq : Hid (¬ E2 b0):=fun h=>by rcases ((HE2.o _).1 h).1 with q | q; exact zaq.o q; exact absurd q (by have q1:=zao.o; have q3:=zaB.o; have q2:=SC.o; omega)
    have HG : Hid (∀ g,(Value.slice ea k ecap).ownBlock = some g -> ¬ E2 g):=fun g hg h=>by rcases ((HE2.o _).1 h).1 with q | q; exact HES.o g hg q; exact absurd q (by have q1:=OES.o g hg; have q2:=SC.o; omega)
    have HIN : Hid (∀ j,E2 j -> j < b3 /\ (A j ∨ w.heap.size <= j)):=fun j h=>⟨((HE2.o _).1 h).2,by rcases ((HE2.o _).1 h).1 with q | q; exact (HE.o j q).2; exact .inr (by have q1:=zba.o; have q2:=SC.o; omega)⟩;have zcf : Hid (w.heap.size <= b3):=by unfold Hid; have q:=zaQ.o; have q2:=zaU.o; omega
    clear HE2 HES HE zaC;go_wp2_with ((with_reducible refine zT ?_ ?_); exact rfl)
    unfold Hid;refine zac rfl 44 (.tmp 11) (.tmp 31) rfl b3 rfl [.slice ca2 m2.store.cells.length cc2,.slice ua2 m2.store.undo.length uc2,.slice aa2 m2.store.answers.length ac2,.slice pa2 m2.store.past.length pc2,I m2.server.gen,.slice xa2 m2.server.box.length xc2,.bool m2.server.busy,I m2.server.now.client,I m2.server.now.token,I m2.server.now.call.kind,I m2.server.now.call.name,I m2.server.now.call.other,I m2.server.now.call.n,.slice la2 m2.server.plan.length lc2,I m2.server.says.err,I m2.server.says.n,.bool m2.up,I m2.pause,I m2.falls,.slice ka2 m2.clients.length kc2] (rfl) zat rfl zaY rfl (fun w64_ M64=>?_);replace zat:=zwb M64;replace OE:=hd (zal OE.o M63.o.ext);replace OE:=hd (M64.o.owns OE.o (fun e=>by have q:=OES.o _ e; have q2:=za9.o; omega));go_wp2_with ((with_reducible refine zT ?_ ?_); exact rfl)
    unfold Hid;refine zah rfl 44 (.tmp 11) rfl b3 rfl zat zu44 zaY (fun v33 H_v33=>?_);go_wp2_with ((with_reducible refine zT ?_ ?_); exact rfl)
    unfold Hid;replace zad:=zwl M64 (zmo M63 zad) zaQ;refine zac rfl 44 (.tmp 6) (.tmp 33) rfl b1 rfl _ (zcv H_v33) zad rfl zaY rfl (fun w65_ M65=>?_);replace zad:=zwb M65;replace OE:=hd (M65.o.owns OE.o (fun e=>by have q:=(OE.o.lt _ e).1; omega));go_wp2_with ((with_reducible refine zT ?_ ?_); exact rfl)
    unfold Hid;refine zbT rfl 37 1 #[I er] (by kernel_rfl) (fun bl w66_ M66=>?_);replace zaa:=zwl M65 (zwl M64 (zmo M63 zaa) zaZ) zao;replace zak:=zwg M65 (zwl M64 (zmo M63 zak) za9) zaB;replace zat:=zwg M65 zat zaQ;have zp1:=zmb M66;go_wp2_with (first | (at_builtin; refine zbD ?_) | ((with_reducible refine zT ?_ ?_); exact rfl))
    unfold Hid;have hlit:=Row.of_owns (zeC (base:=0) (size:=1) (n:=1) M66.o (Nat.zero_le _) rfl (by decide));replace zad:=zmo M66 zad;have hszl : b1 + 1 <= w66_.heap.size:=(zlt zad);replace zat:=zmo M66 zat;have SB3 : Hid (b3 < w66_.heap.size):=(zlt zat);replace OE:=hd (zal OE.o M66.o.ext);refine zem rfl (.tmp 34) (.tmp 36) 48 rfl (b1 + 1) 37 j0 (.int .i64 0) 1 8 zu48 HJ.o hy0 hy1 hy2 rfl (by decide) (.slice ea k ecap) k _ rfl OE.o _ rfl 1 _ hlit (zbz rfl) (by omega) (by decide) hszl ?_;intro v37 wq ho hg hfr;clear hlit hszl;have hlo : ∀ b,b <= b1 -> (Value.slice ea k ecap).ownBlock ≠ some b:=fun b hb e=>by have:=(OE.o.lt b e).1; omega
    replace zaa:=zmo M66 zaa;have kb0:=zfc hg zaa.o (hlo b0 (Nat.le_of_lt zao.o));have kb1:=zfc hg zad.o (hlo b1 (Nat.le_refl _));replace EW:=zet (zwe M65 (zwe M64 (zet EW M63) zcf) zaU) M66;have kew : Ext w wq:=EW.o.grown hg (fun b e=>by have q:=(OE.o.lt b e).1; have q2:=zaU.o; omega);replace H:=hd ((zHw M65 (zHw M64 H zaP) zar).o.ext M66.o.ext);have kh : RdM E2 wq m2 _ _ _ _ _ _ _:=⟨H.o.cells.grown hg HG.o,H.o.undo.grown hg HG.o,H.o.answers.grown hg HG.o,H.o.past.grown hg HG.o,H.o.box.grown hg HG.o,H.o.plan.grown hg HG.o,H.o.clients.grown hg HG.o⟩;have ksz : b3 < wq.heap.size:=Nat.lt_of_lt_of_le SB3.o hg.size
    have KF : Hid (∀ g,v37.ownBlock = some g -> ¬ E2 g):=fun g hgv h=>by
     rcases hfr with hf | hf
     ·rw [hf] at hgv;exact HG.o g hgv h
     ·have q:=hf g hgv;have q2:=(HIN.o g h).1;have q3:=SB3.o;omega
    clear zaa zad zak zat zp1 EW H hg hfr hlo OE0;have K0:=hd kb0;have K1:=hd kb1;have KE:=hd kew;have KH:=hd kh;have KO:=hd ho;have KS:=hd ksz;clear kb0 kb1 kew kh ho ksz OE;obtain ⟨na,ncap,rfl⟩:=zcR KO.o;go_wp2
    go_roundw
    case rel =>
     have hp : m2 = zel (zbb l) (steps.take (k + 1)):=by
      rw [HT.o,playM_snoc,<- HM.o];exact (congrArg Prod.fst HD.o).symm
     have he : zfP (zbb l) (steps.take (k + 1)) = zfP (zbb l) (steps.take k) ++ [er]:=by
      rw [HT.o,playE_snoc,<- HM.o];have q:=congrArg Prod.snd HD.o;simp only [] at q;rw [q]
     refine ⟨k + 1,E2,m2,_,_,_,_,_,_,_,by omega,by omega,by go_num,hp,KH.o,fun j hj=>⟨by have q:=(HIN.o j hj).1; have q2:=KS.o; omega,(HIN.o j hj).2⟩,zaq.o,zar.o,KF.o,K0.o,K1.o,?_,KE.o⟩;rw [he,List.map_append];exact KO.o
    case measure=>simp [intOf]; omega
  ·have hkl : k = steps.length:=by omega
   subst hkl;go_wp2_with ((with_reducible refine zT ?_ ?_); exact rfl)
   unfold Hid;refine zah rfl 44 (.tmp 6) rfl b1 rfl zad zu44 zaY (fun v39 H_v39=>?_);go_wp2_with ((with_reducible refine zT ?_ ?_); exact rfl)
   unfold Hid;refine zac rfl 44 (.tmp 4) (.tmp 39) rfl b0 rfl _ (zcv H_v39) zaa rfl zaY rfl (fun w41_ M41=>?_);replace zaa:=zwb M41;replace OE:=hd (M41.o.owns OE.o (fun e=>by have q:=(OE.o.lt _ e).1; have q2:=zao.o; omega));go_wp2
   have z0:=zas (P:=Tryz.prog) 44 zaa.o zu44 (by kernel_rfl);refine bodyPost_ret (by simp [results,Tryz.results9,asAddr,z0]; rfl) rfl ?_;have ht : steps.take steps.length = steps.take 400:=by rw [List.take_length,List.take_of_length_le h4]
   have hmm:=HM.o;rw [ht] at hmm;have hoe:=OE.o;rw [ht] at hoe;replace H:=zHw M41 H zaq;have r1:=(H.o.widen (B:=fun k=>A k ∨ w.heap.size <= k) (fun k _ h=>(HE.o k h).2)).mc;rw [hmm] at r1;have r2:=(zdP hoe).widen (B:=fun k=>A k ∨ w.heap.size <= k) (fun k _ h=>.inr (by have q:=zaU.o; omega));have hlen : (zfP (zbb l) (steps.take 400)).length = steps.length:=by have q:=hoe.1; simpa using q
   replace EW:=zwe M41 EW za1;refine ⟨_,rfl,EW.o,(r1.and r2).imp fun w' h=>⟨_,_,(by rw [<- hmm]),h.1,?_⟩⟩;have h2:=h.2;unfold zbN;rw [hlen];exact h2

open Go.RowKit Go.Mk

def zo1 : Prop:=∀ (v : Value) (l : List (List Cl)) (w : World) (A : Nat -> Prop),Rd A (fun w=>zax 1 zfa w v l) w -> zaS Tryz.prog 6 #[v] w A (znq l)
def zp2 : Prop:=∀ (l : List (List Cl)) (m : Mc) (k : Nat) (c u a p box plan cl : Value) (kind n : Int) (w : World) (A : Nat -> Prop),RdM A w m c u a p box plan cl -> Gd l m k -> k <= 500 ->
 zaS Tryz.prog 10 #[.agg (za3 m c u a p box plan cl).toArray,.agg #[I kind,I n]] w A (fun r w'=>zgB zdW (doM m kind n).1 (doM m kind n).2 r w')

def zoZ : Mc:=⟨⟨[],[],[],[]⟩,zbJ 0 [],false,0,0,[]⟩
def zm6 (l : List (List Cl)) : Mc:=if zgb l = 0 then zbb l else zoZ
theorem zpp {l : List (List Cl)} {r : Value} {A : Nat -> Prop} {w : World} (h : Rd A (znq l r) w) : ∃ c u a p box plan cl,r = .tuple #[.agg (za3 (zm6 l) c u a p box plan cl).toArray,I (zgb l)] /\ RdM A w (zm6 l) c u a p box plan cl /\ (zgb l = 0 -> zbF l):=by
 obtain ⟨cs,e1,h1⟩:=zpG h
 rcases h1 with ⟨h2,h3,h4⟩ | ⟨rfl,h2,h3⟩
 ·have e : zm6 l = zbb l:=if_pos h2
  obtain ⟨c,u,a,p,box,plan,cl,rfl,hM⟩:=zdb h4
  rw [e]
  exact ⟨c,u,a,p,box,plan,cl,e1,hM,fun _=>h3⟩
 ·have e : zm6 l = zoZ:=if_neg h2
  rw [e]
  exact ⟨.slice none 0 0,.slice none 0 0,.slice none 0 0,.slice none 0 0,.slice none 0 0,.slice none 0 0,.slice none 0 0,e1,⟨Rd.all fun w=>zoI w,Rd.all fun w=>zbi w,Rd.all fun w=>zax.nil w,Rd.all fun w=>zax.nil w,Rd.all fun w=>zax.nil w,Rd.all fun w=>zbi w,Rd.all fun w=>zax.nil w⟩,fun h=>absurd h h2⟩
theorem zpq {l : List (List Cl)} {r : Value} {A : Nat -> Prop} {w : World} (h : Rd A (znq l r) w) {N : Mc} (hn : zm6 l = N) : ∃ c u a p box plan cl,r = .tuple #[.agg (za3 N c u a p box plan cl).toArray,I (zgb l)] /\ RdM A w N c u a p box plan cl /\ (zgb l = 0 -> zbF l):=by
 subst hn
 exact zpp h
theorem zpP {l : List (List Cl)} {m : Mc} {k : Nat} (h : Gd l m k) (kind n : Int) : Gd l (doM m kind n).1 (k + 1):=by
 obtain ⟨h1,⟨ks,bz,h2⟩,h3⟩:=h
 exact ⟨h1,znV h1 h2 kind n,zmF h3 kind n⟩
theorem Gd.fit {l : List (List Cl)} {m : Mc} {k : Nat} (h : Gd l m k) (hk : k <= 1000) : Fit m:=by
 obtain ⟨h1,⟨ks,bz,h2⟩,h3⟩:=h
 exact znY h1 h2 h3 hk

end Go.Proofs.YtikbhmnjlmbeeaeGreat
