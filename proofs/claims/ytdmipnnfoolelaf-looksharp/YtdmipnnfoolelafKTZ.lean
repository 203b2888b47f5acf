/- Texts of the proof, merged: N17 J1 C2 N19 N21 Q1. -/
import Derived.Test.YtdmipnnfoolelafKTA
import Derived.Test.YtdmipnnfoolelafKTY
import Derived.Test.YtdmipnnfoolelafKTH
import Derived.Test.YtdmipnnfoolelafKTF
import Derived.Test.YtdmipnnfoolelafKTV
import Derived.Test.YtdmipnnfoolelafKTM
import Derived.Test.YtdmipnnfoolelafKTQ
import Derived.Test.YtdmipnnfoolelafKTN
import Derived.Test.YtdmipnnfoolelafKTI
set_option maxHeartbeats 4000000
set_option maxRecDepth 100000

namespace Go.Proofs.Ytdmipnnfoolelaf
open Go.RowKit Go.Mk

theorem Try.infoErrno:(Try.prog.info? 36).map (fun i=>(i.zero,i.size,i.bytes))=some (some (.int .i64 0),1,8):=by kernel_rfl

def zeQ (m:Mc):List (Int×Int)->List Int
 | []=>[]
 | p::l=>(doM m p.1 p.2).2::zeQ (doM m p.1 p.2).1 l
theorem playE_snoc (p:Int×Int):∀ (l:List (Int×Int)) (m:Mc),zeQ m (l++[p])=zeQ m l++[(doM (zdc m l) p.1 p.2).2]
 | [],m=>rfl
 | q::l,m=>by
  show (doM m q.1 q.2).2::zeQ (doM m q.1 q.2).1 (l++[p])=_
  rw [playE_snoc p l]
  rfl
theorem playM_snoc (p:Int×Int) (l:List (Int×Int)) (m:Mc):zdc m (l++[p])=(doM (zdc m l) p.1 p.2).1:=by
 unfold zdc
 rw [List.foldl_append]
 rfl
theorem zlr {l:List (Int×Int)} {k:Nat} (h:k < l.length):l.take (k+1)=l.take k++[l.getD k (0,0)]:=by
 rw [List.take_add_one,List.getElem?_eq_getElem h,List.getD_eq_getElem?_getD,List.getElem?_eq_getElem h]
 rfl
theorem zmH {l:List (List Cl)} (hl:zbm l) (steps:List (Int×Int)) {k:Nat} (hk:k<=400):Fit (zdc (newMc l) (steps.take k)):=by
 obtain ⟨ks,bz,h⟩:=zkU hl (steps.take k)
 have hs:=zie (zi7 l) (steps.take k)
 exact zol hl h (hs.mono (j:=400) (by rw [List.length_take]; omega)) (by omega)

def zmn (l:List (List Cl)) (steps:List (Int×Int)) (r:Value) (w:World):Prop:=∃ (cs:List Value) (es:Value),r=.tuple #[.agg cs.toArray,es]/\zec w cs (zdc (newMc l) (steps.take 400))/\zbo w es (zeQ (newMc l) (steps.take 400))
theorem zi1 {l:List (List Cl)} {steps:List (Int×Int)} {r:Value} {A:Nat->Prop} {w:World} (h:Rd A (zmn l steps r) w):∃ (cs:List Value) (es:Value),r=.tuple #[.agg cs.toArray,es]/\Rd A (fun w=>zec w cs (zdc (newMc l) (steps.take 400))) w/\Rd A (fun w=>zbo w es (zeQ (newMc l) (steps.take 400))) w:=by
 obtain ⟨cs,es,e1,h1,h2⟩:=h.o
 have key:∀ w',zmn l steps r w'->zec w' cs (zdc (newMc l) (steps.take 400))/\zbo w' es (zeQ (newMc l) (steps.take 400)):=fun w' hw=>by
  obtain ⟨cs',es',e1',h3,h4⟩:=hw
  rw [e1] at e1'
  simp only [Value.tuple.injEq,Array.mk.injEq,List.cons.injEq,Value.agg.injEq,and_true] at e1'
  obtain ⟨q1,q2⟩:=e1'
  have q1:cs=cs':=by simpa using q1
  subst q1 q2
  exact ⟨h3,h4⟩
 exact ⟨cs,es,e1,h.imp fun w' hw=>(key w' hw).1,h.imp fun w' hw=>(key w' hw).2⟩

theorem zej (v sv:Value) (l:List (List Cl)) (steps:List (Int×Int)) (w:World) (A:Nat->Prop) (hl:zbm l) (hv:Rd A (fun w=>zaq 1 zdb w v l) w) (hs:zan w sv steps) :
  zaU Try.prog 7 #[v,sv] w A (zmn l steps):=by
 unfold zaU;obtain ⟨sa0,scap,rfl,s1,s2,s3⟩:=hs.form;unfold maxLen at s2;have HS3:=zhd s3;have HL:=zhd hl;have HV:=zhd (hv.widen (B:=fun k=>A k/\k < w.heap.size) (fun k hk h=>⟨h,hk⟩));clear hv hs s3 hl;obtain ⟨va,vcap,rfl⟩:=zac HV.o.o;obtain ⟨j0,hj,hy0,hy1,hy2⟩:=info_parts Try.infoErrno;have HJ:=zhd hj;clear hj;have EW:=zhd (Ext.refl w);go_enter Try.func7,Try.ntmps7
 go_wp2_with (with_reducible refine zT ?_)
 refine zah rfl 43 zM (by kernel_rfl) (fun b0 w1_ M1=>?_);have zab:=zmb M1;have zbD:Hid (w.heap.size<=b0):=by unfold Hid; have q:=M1.o.at_; omega
 go_wp2_with fail
 refine (zeG _ l w1_ (fun k=>A k/\k < w.heap.size) (HV.o.ext M1.o.ext)).to fun r w2 e2 hr=>?_;obtain ⟨cs,e,rfl,hc⟩:=zkG hr;replace EW:=zet EW M1;rcases hc with ⟨rfl,-,hm⟩ | ⟨-,-,hno⟩
 case inr=>exact absurd HL.o hno
 obtain ⟨c,u,a,p,box,plan,cl,rfl,hM⟩:=zeT hm;obtain ⟨ca,cc,ua,uc,aa,ac,pa,pc,xa,xc,la,lc,ka,kc,rfl,rfl,rfl,rfl,rfl,rfl,rfl⟩:=hM.slices;have H:=zhd hM;clear hM hm hr;have e2':=zhd e2;replace zab:=zbx zab e2;replace EW:=zhd (EW.o.trans e2);clear e2;go_wp2_with (with_reducible refine zT ?_)
 refine zah rfl 43 zM (by kernel_rfl) (fun b1 w2_ M2=>?_);have zaB:=zld zab M2;have zad:=zmb M2;have zbu:Hid (w.heap.size<=b1):=by unfold Hid; have q:=zaB.o; have q2:=zbD.o; omega
 obtain ⟨E,HE⟩:∃ E:Nat->Prop,Hid (∀ k,E k↔(((A k/\k < w.heap.size)∨w1_.heap.size<=k)/\k < b1)):=⟨_,fun _=>Iff.rfl⟩;replace H:=zhd ((H.o.widen (B:=E) (fun k hk h=>(HE.o k).2 ⟨h,by have q:=M2.o.at_; omega⟩)).ext M2.o.ext);have zaJ:Hid (¬ E b0):=fun h=>by have q:=((HE.o _).1 h).1; have q1:=M1.o.at_; have q2:=M1.o.size; omega
 have zaD:Hid (¬ E b1):=fun h=>by have q:=((HE.o _).1 h).2; omega
 go_wp2_with (with_reducible refine zT ?_)
 refine zaf rfl 43 (.tmp 6) (.tmp 16) rfl b1 rfl [.slice ca (newMc l).store.cells.length cc,.slice ua (newMc l).store.undo.length uc,.slice aa (newMc l).store.answers.length ac,.slice pa (newMc l).store.past.length pc,I (newMc l).server.gen,.slice xa (newMc l).server.box.length xc,.bool (newMc l).server.busy,I (newMc l).server.now.client,I (newMc l).server.now.token,I (newMc l).server.now.call.kind,I (newMc l).server.now.call.name,I (newMc l).server.now.call.other,I (newMc l).server.now.call.n,.slice la (newMc l).server.plan.length lc,I (newMc l).server.says.err,I (newMc l).server.says.n,.bool (newMc l).up,I (newMc l).pause,I (newMc l).falls,.slice ka (newMc l).clients.length kc] (rfl) zad rfl za2 rfl (fun w3_ M3=>?_);replace zad:=zwb M3;go_wp2_with fail
 replace zab:=zwl M3 (zmo M2 zab) zaB;replace EW:=zwe M3 (zet EW M2) zbu;replace H:=zHw M3 H zaD;go_loopw [8,20] (fun es i wr=>∃ (k:Nat) (E:Nat->Prop) (mk:Mc) (c u a p box plan cl:Value),k<=steps.length/\k<=400/\i=I k/\mk=zdc (newMc l) (steps.take k)/\RdM E wr mk c u a p box plan cl/\(∀ j,E j->j < wr.heap.size/\(A j∨w.heap.size<=j))/\¬ E b0/\¬ E b1/\(∀ g,es.ownBlock=some g->¬ E g)/\wr.heap[b0]?=some (.cells zM 43 (0,0))/\wr.heap[b1]?=some (.cells (zaO mk c u a p box plan cl).toArray 43 (0,0))/\wr.ownsRow (b1+1) 36 1 es k ((zeQ (newMc l) (steps.take k)).map I)/\Ext w wr) (fun _ i _=>steps.length - (intOf i).toNat)
 case atStart=>exact ⟨0,E,newMc l,_,_,_,_,_,_,_,Nat.zero_le _,Nat.zero_le _,rfl,rfl,H.o,fun j hj=>⟨by have q:=(HE.o j).1 hj; have q2:=(zlt zad); omega,by rcases ((HE.o j).1 hj).1 with h | h; exact .inl h.1; exact .inr (by have q:=M1.o.ext.size; omega)⟩,zaJ.o,zaD.o,fun g hg=>(by cases hg),zab.o,zad.o,World.ownsRow_nil _ _ _ _,EW.o⟩
 case round =>
  obtain ⟨k,E',mk,c',u',a',p',box',plan',cl',hk,h4,rfl,hmk,hm,hE,n0,n1,hes,hb0,hb1,ho,hex⟩:=hrel;clear zab zad H EW zaJ zaD HE e2';obtain ⟨ca,cc,ua,uc,aa,ac,pa,pc,xa,xc,la,lc,ka,kc,rfl,rfl,rfl,rfl,rfl,rfl,rfl⟩:=hm.slices;obtain ⟨ea,ecap,rfl⟩:=zdj ho;have HM:=zhd hmk;have H:=zhd hm;have HE:=zhd hE;have zaJ:=zhd n0;have zaD:=zhd n1;have HES:=zhd hes;have zab:=zhd hb0;have zad:Hid (wr.heap[b1]?=some (.cells #[.slice ca mk.store.cells.length cc,.slice ua mk.store.undo.length uc,.slice aa mk.store.answers.length ac,.slice pa mk.store.past.length pc,I mk.server.gen,.slice xa mk.server.box.length xc,.bool mk.server.busy,I mk.server.now.client,I mk.server.now.token,I mk.server.now.call.kind,I mk.server.now.call.name,I mk.server.now.call.other,I mk.server.now.call.n,.slice la mk.server.plan.length lc,I mk.server.says.err,I mk.server.says.n,.bool mk.up,I mk.pause,I mk.falls,.slice ka mk.clients.length kc] 43 (0,0))):=hb1;have OE:=zhd ho;have EW:=zhd hex;clear hmk hm hE n0 n1 hes hb0 hb1 ho hex;generalize hEr:(E':Nat->Prop)=E at *;clear hEr E';by_cases hlt:k < steps.length
  ·by_cases h400:k=400
   ·subst h400;obtain ⟨sb,so,rfl,c0,c1⟩:=HS3.o 400 hlt;replace c0:=EW.o.cell c0;replace c1:=EW.o.cell c1;generalize steps.getD 400 (0,0)=pp at c0 c1;obtain ⟨kd,sn⟩:=pp;simp only [] at c0 c1;have OE0:=OE;go_wp2_with (with_reducible refine zT ?_)
    clear c0 c1;refine zah rfl 66 #[I 0,I 0] (by kernel_rfl) (fun b2 w41_ M41=>?_);have zaY:=zld zab M41;have zaW:=zld zad M41;have zas:=zmb M41;have zaP:Hid (¬ E b2):=fun h=>by have q:=(HE.o _ h).1; have q1:=M41.o.at_; omega
    have zbU:Hid (w.heap.size<=b2):=by unfold Hid; have q:=zaW.o; have q2:=zbu.o; omega
    have OEN:Hid ((Value.slice ea 400 ecap).ownBlock≠some b2):=fun e=>by have q:=(OE0.o.lt _ e).2; have q1:=M41.o.at_; omega
    go_wp2_with (with_reducible refine zT ?_)
    refine zaf rfl 66 (.tmp 10) (.tmp 24) rfl b2 rfl [I kd,I sn] (rfl) zas rfl zot rfl (fun w42_ M42=>?_);replace zas:=zwb M42;go_wp2_with (with_reducible refine zT ?_)
    replace zad:=zwl M42 (zmo M41 zad) zaW;refine zai rfl 43 (.tmp 6) rfl b1 rfl zad zbf za2 (fun v39 H_v39=>?_);go_wp2_with (with_reducible refine zT ?_)
    replace zab:=zwl M42 (zmo M41 zab) zaY;refine zaf rfl 43 (.tmp 4) (.tmp 39) rfl b0 rfl _ (zcv H_v39) zab rfl za2 rfl (fun w43_ M43=>?_);replace zab:=zwb M43;replace OE:=zhd (M42.o.owns (zhd (zaw OE.o M41.o.ext)).o OEN.o);replace OE:=zhd (M43.o.owns OE.o (fun e=>by have q:=(OE.o.lt _ e).1; have q2:=zaB.o; omega));go_wp2
    have z0:=zay (P:=Try.prog) 43 zab.o zbf (by kernel_rfl);refine bodyPost_ret (by simp [results,Try.results7,asAddr,z0]; rfl) rfl ?_;have hmm:=HM.o;have hoe:=OE.o;replace H:=zHw M43 (zHw M42 (zhd (H.o.ext M41.o.ext)) zaP) zaJ;have r1:=(H.o.widen (B:=fun k=>A k∨w.heap.size<=k) (fun k _ h=>(HE.o k h).2)).mc;rw [hmm] at r1;have r2:=(zdY hoe).widen (B:=fun k=>A k∨w.heap.size<=k) (fun k _ h=>.inr (by have q:=zbu.o; omega));have hlen:(zeQ (newMc l) (steps.take 400)).length=400:=by have q:=hoe.1; simpa using q
    replace EW:=zwe M43 (zwe M42 (zet EW M41) zbU) zbD;refine ⟨_,rfl,EW.o,(r1.and r2).imp fun w' h=>⟨_,_,(by rw [<- hmm]),h.1,?_⟩⟩;have h2:=h.2;unfold zbo;rw [hlen];exact h2
   ·have h400i:((k:Int) == 400)=false:=by simpa using (fun h:(k:Int)=400=>h400 (by omega))
    have hk4:k < 400:=by omega
    have HT:=zhd (zlr hlt);have FIT:=zhd (zmH HL.o steps h4);rw [<- HM.o] at FIT;obtain ⟨sb,so,rfl,c0,c1⟩:=HS3.o k hlt;replace c0:=EW.o.cell c0;replace c1:=EW.o.cell c1;generalize steps.getD k (0,0)=pp at *;obtain ⟨kd,sn⟩:=pp;simp only [] at c0 c1;have OE0:=OE;go_wp2_with (with_reducible refine zT ?_)
    clear c0 c1;refine zah rfl 66 #[I 0,I 0] (by kernel_rfl) (fun b2 w61_ M61=>?_);have zaY:=zld zab M61;have zaW:=zld zad M61;have zas:=zmb M61;have B2AT:Hid (b2=wr.heap.size):=M61.o.at_;have zaP:Hid (¬ E b2):=fun h=>by have q:=(HE.o _ h).1; have q1:=M61.o.at_; omega
    have zbU:Hid (w.heap.size<=b2):=by unfold Hid; have q:=zaW.o; have q2:=zbu.o; omega
    have OEN:Hid ((Value.slice ea k ecap).ownBlock≠some b2):=fun e=>by have q:=(OE0.o.lt _ e).2; have q1:=M61.o.at_; omega
    go_wp2_with (with_reducible refine zT ?_)
    refine zaf rfl 66 (.tmp 10) (.tmp 24) rfl b2 rfl [I kd,I sn] (rfl) zas rfl zot rfl (fun w62_ M62=>?_);replace zas:=zwb M62;clear h400;go_wp2_with (with_reducible refine zT ?_)
    clear h400i;replace zad:=zwl M62 (zmo M61 zad) zaW;refine zai rfl 43 (.tmp 6) rfl b1 rfl zad zbf za2 (fun v28 H_v28=>?_);have q0:=zaa (i:=0) zas.o rfl;have q1:=zaa (i:=1) zas.o rfl;go_wp2_with fail
    clear q0 q1;rw [show _=Value.agg #[.slice ca mk.store.cells.length cc,.slice ua mk.store.undo.length uc,.slice aa mk.store.answers.length ac,.slice pa mk.store.past.length pc,I mk.server.gen,.slice xa mk.server.box.length xc,.bool mk.server.busy,I mk.server.now.client,I mk.server.now.token,I mk.server.now.call.kind,I mk.server.now.call.name,I mk.server.now.call.other,I mk.server.now.call.n,.slice la mk.server.plan.length lc,I mk.server.says.err,I mk.server.says.n,.bool mk.up,I mk.pause,I mk.falls,.slice ka mk.clients.length kc] from H_v28.o];replace H:=zHw M62 (zhd (H.o.ext M61.o.ext)) zaP;refine (zi8 mk _ _ _ _ _ _ _ kd sn w62_ E H.o FIT.o).to fun r w9 e9 hr=>?_;obtain ⟨m2,er,hD⟩:∃ x y,doM mk kd sn=(x,y):=⟨_,_,rfl⟩;rw [hD] at hr;have HD:=zhd hD;clear hD H_v28;simp only [] at hr;obtain ⟨cs,rfl,hcs⟩:=ziT hr;obtain ⟨c2,u2,a2,p2,box2,plan2,cl2,rfl,hm2⟩:=zeT hcs;obtain ⟨ca2,cc2,ua2,uc2,aa2,ac2,pa2,pc2,xa2,xc2,la2,lc2,ka2,kc2,rfl,rfl,rfl,rfl,rfl,rfl,rfl⟩:=hm2.slices;clear hcs hr H;have H:=zhd hm2;clear hm2;have SC:Hid (b2 < w62_.heap.size):=(zlt zas);have SC9:Hid (w62_.heap.size<=w9.heap.size):=e9.size;have OES:Hid (∀ g,(Value.slice ea k ecap).ownBlock=some g->g < b2):=fun g hg=>by have q:=(OE0.o.lt g hg).2; have q1:=(zlt zas); have q2:=B2AT.o; omega
    replace zab:=zbx (zwl M62 (zmo M61 zab) zaY) e9;replace OE:=zhd (zaw (zhd (M62.o.owns (zhd (zaw OE.o M61.o.ext)).o OEN.o)).o e9);replace EW:=zhd ((zwe M62 (zet EW M61) zbU).o.trans e9);replace zad:=zbx zad e9;replace zas:=zbx zas e9;clear e9;go_wp2_with (with_reducible refine zT ?_)
    refine zah rfl 43 zM (by kernel_rfl) (fun b3 w63_ M63=>?_);have zbi:=zld zab M63;have za1:=zld zad M63;have zbg:=zld zas M63;have zaA:=zmb M63;obtain ⟨E2,HE2⟩:∃ X:Nat->Prop,Hid (∀ k,X k↔((E k∨w62_.heap.size<=k)/\k < b3)):=⟨_,fun _=>Iff.rfl⟩;replace H:=zhd ((H.o.widen (B:=E2) (fun k hk h=>(HE2.o k).2 ⟨h,by have q:=M63.o.at_; omega⟩)).ext M63.o.ext);have zbw:Hid (¬ E2 b3):=fun h=>by have q:=((HE2.o _).1 h).2; omega
    replace zaD:Hid (¬ E2 b1):=fun h=>by rcases ((HE2.o _).1 h).1 with q | q; exact zaD.o q; exact absurd q (by have q1:=zaW.o; have q2:=SC.o; omega)
    replace zaJ:Hid (¬ E2 b0):=fun h=>by rcases ((HE2.o _).1 h).1 with q | q; exact zaJ.o q; exact absurd q (by have q1:=zaB.o; have q3:=zaW.o; have q2:=SC.o; omega)
    have HG:Hid (∀ g,(Value.slice ea k ecap).ownBlock=some g->¬ E2 g):=fun g hg h=>by rcases ((HE2.o _).1 h).1 with q | q; exact HES.o g hg q; exact absurd q (by have q1:=OES.o g hg; have q2:=SC.o; omega)
    have HIN:Hid (∀ j,E2 j->j < b3/\(A j∨w.heap.size<=j)):=fun j h=>⟨((HE2.o _).1 h).2,by rcases ((HE2.o _).1 h).1 with q | q; exact (HE.o j q).2; exact .inr (by have q1:=zbU.o; have q2:=SC.o; omega)⟩;have zev:Hid (w.heap.size<=b3):=by unfold Hid; have q:=za1.o; have q2:=zbu.o; omega
    clear HE2 HES HE zaP;go_wp2_with (with_reducible refine zT ?_)
    refine zaf rfl 43 (.tmp 11) (.tmp 31) rfl b3 rfl [.slice ca2 m2.store.cells.length cc2,.slice ua2 m2.store.undo.length uc2,.slice aa2 m2.store.answers.length ac2,.slice pa2 m2.store.past.length pc2,I m2.server.gen,.slice xa2 m2.server.box.length xc2,.bool m2.server.busy,I m2.server.now.client,I m2.server.now.token,I m2.server.now.call.kind,I m2.server.now.call.name,I m2.server.now.call.other,I m2.server.now.call.n,.slice la2 m2.server.plan.length lc2,I m2.server.says.err,I m2.server.says.n,.bool m2.up,I m2.pause,I m2.falls,.slice ka2 m2.clients.length kc2] (rfl) zaA rfl za2 rfl (fun w64_ M64=>?_);replace zaA:=zwb M64;replace OE:=zhd (zaw OE.o M63.o.ext);replace OE:=zhd (M64.o.owns OE.o (fun e=>by have q:=OES.o _ e; have q2:=zbg.o; omega));go_wp2_with (with_reducible refine zT ?_)
    refine zai rfl 43 (.tmp 11) rfl b3 rfl zaA zbf za2 (fun v33 H_v33=>?_);go_wp2_with (with_reducible refine zT ?_)
    replace zad:=zwl M64 (zmo M63 zad) za1;refine zaf rfl 43 (.tmp 6) (.tmp 33) rfl b1 rfl _ (zcv H_v33) zad rfl za2 rfl (fun w65_ M65=>?_);replace zad:=zwb M65;replace OE:=zhd (M65.o.owns OE.o (fun e=>by have q:=(OE.o.lt _ e).1; omega));go_wp2_with (with_reducible refine zT ?_)
    unfold Hid;refine zbQ rfl 36 1 #[I er] (by kernel_rfl) (fun bl w66_ M66=>?_);replace zab:=zwl M65 (zwl M64 (zmo M63 zab) zbi) zaB;replace zas:=zwg M65 (zwl M64 (zmo M63 zas) zbg) zaW;replace zaA:=zwg M65 zaA za1;have zn3:=zmb M66;go_wp2_with (first | (at_builtin; refine zbl ?_) | (with_reducible refine zT ?_))
    unfold Hid;have hlit:=Row.of_owns (zbC (base:=0) (size:=1) (n:=1) M66.o (Nat.zero_le _) rfl (by decide));replace zad:=zmo M66 zad;have hszl:b1+1<=w66_.heap.size:=(zlt zad);replace zaA:=zmo M66 zaA;have SB3:Hid (b3 < w66_.heap.size):=(zlt zaA);replace OE:=zhd (zaw OE.o M66.o.ext);refine zft rfl (.tmp 34) (.tmp 36) 44 rfl (b1+1) 36 j0 (.int .i64 0) 1 8 zoO HJ.o hy0 hy1 hy2 rfl (by decide) (.slice ea k ecap) k _ rfl OE.o _ rfl 1 _ hlit (zb9 rfl) (by omega) (by decide) hszl ?_;intro v37 wq ho hg hfr;clear hlit hszl;have hlo:∀ b,b<=b1->(Value.slice ea k ecap).ownBlock≠some b:=fun b hb e=>by have:=(OE.o.lt b e).1; omega
    replace zab:=zmo M66 zab;have kb0:=zgd hg zab.o (hlo b0 (Nat.le_of_lt zaB.o));have kb1:=zgd hg zad.o (hlo b1 (Nat.le_refl _));replace EW:=zet (zwe M65 (zwe M64 (zet EW M63) zev) zbu) M66;have kew:Ext w wq:=EW.o.grown hg (fun b e=>by have q:=(OE.o.lt b e).1; have q2:=zbu.o; omega);replace H:=zhd ((zHw M65 (zHw M64 H zbw) zaD).o.ext M66.o.ext);have kh:RdM E2 wq m2 _ _ _ _ _ _ _:=⟨H.o.cells.grown hg HG.o,H.o.undo.grown hg HG.o,H.o.answers.grown hg HG.o,H.o.past.grown hg HG.o,H.o.box.grown hg HG.o,H.o.plan.grown hg HG.o,H.o.clients.grown hg HG.o⟩;have ksz:b3 < wq.heap.size:=Nat.lt_of_lt_of_le SB3.o hg.size
    have KF:Hid (∀ g,v37.ownBlock=some g->¬ E2 g):=fun g hgv h=>by
     rcases hfr with hf | hf
     ·rw [hf] at hgv;exact HG.o g hgv h
     ·have q:=hf g hgv;have q2:=(HIN.o g h).1;have q3:=SB3.o;omega
    clear zab zad zas zaA zn3 EW H hg hfr hlo OE0;have K0:=zhd kb0;have K1:=zhd kb1;have KE:=zhd kew;have KH:=zhd kh;have KO:=zhd ho;have KS:=zhd ksz;clear kb0 kb1 kew kh ho ksz OE;obtain ⟨na,ncap,rfl⟩:=zdj KO.o;go_wp2
    go_roundw
    case rel =>
     have hp:m2=zdc (newMc l) (steps.take (k+1)):=by
      rw [HT.o,playM_snoc,<- HM.o];exact (congrArg Prod.fst HD.o).symm
     have he:zeQ (newMc l) (steps.take (k+1))=zeQ (newMc l) (steps.take k)++[er]:=by
      rw [HT.o,playE_snoc,<- HM.o];have q:=congrArg Prod.snd HD.o;simp only [] at q;rw [q]
     refine ⟨k+1,E2,m2,_,_,_,_,_,_,_,by omega,by omega,by go_num,hp,KH.o,fun j hj=>⟨by have q:=(HIN.o j hj).1; have q2:=KS.o; omega,(HIN.o j hj).2⟩,zaJ.o,zaD.o,KF.o,K0.o,K1.o,?_,KE.o⟩;rw [he,List.map_append];exact KO.o
    case measure=>simp [intOf]; omega
  ·have hkl:k=steps.length:=by omega
   subst hkl;go_wp2_with (with_reducible refine zT ?_)
   refine zai rfl 43 (.tmp 6) rfl b1 rfl zad zbf za2 (fun v39 H_v39=>?_);go_wp2_with (with_reducible refine zT ?_)
   refine zaf rfl 43 (.tmp 4) (.tmp 39) rfl b0 rfl _ (zcv H_v39) zab rfl za2 rfl (fun w41_ M41=>?_);replace zab:=zwb M41;replace OE:=zhd (M41.o.owns OE.o (fun e=>by have q:=(OE.o.lt _ e).1; have q2:=zaB.o; omega));go_wp2
   have z0:=zay (P:=Try.prog) 43 zab.o zbf (by kernel_rfl);refine bodyPost_ret (by simp [results,Try.results7,asAddr,z0]; rfl) rfl ?_;have ht:steps.take steps.length=steps.take 400:=by rw [List.take_length,List.take_of_length_le h4]
   have hmm:=HM.o;rw [ht] at hmm;have hoe:=OE.o;rw [ht] at hoe;replace H:=zHw M41 H zaJ;have r1:=(H.o.widen (B:=fun k=>A k∨w.heap.size<=k) (fun k _ h=>(HE.o k h).2)).mc;rw [hmm] at r1;have r2:=(zdY hoe).widen (B:=fun k=>A k∨w.heap.size<=k) (fun k _ h=>.inr (by have q:=zbu.o; omega));have hlen:(zeQ (newMc l) (steps.take 400)).length=steps.length:=by have q:=hoe.1; simpa using q
   replace EW:=zwe M41 EW zbD;refine ⟨_,rfl,EW.o,(r1.and r2).imp fun w' h=>⟨_,_,(by rw [<- hmm]),h.1,?_⟩⟩;have h2:=h.2;unfold zbo;rw [hlen];exact h2

open Go.RowKit Go.Mk

def zm0:Mc:=⟨⟨[],[],[],[]⟩,zcU 0 [],false,0,0,[]⟩
def zlw (l:List (List Cl)):Mc:=if zfq l=0 then newMc l else zm0
theorem znP {l:List (List Cl)} {r:Value} {A:Nat->Prop} {w:World} (h:Rd A (zma l r) w):∃ c u a p box plan cl,r=.tuple #[.agg (zaO (zlw l) c u a p box plan cl).toArray,I (zfq l)]/\RdM A w (zlw l) c u a p box plan cl/\(zfq l=0->zbm l):=by
 obtain ⟨cs,e1,h1⟩:=znp h
 rcases h1 with ⟨h2,h3,h4⟩ | ⟨rfl,h2,h3⟩
 ·have e:zlw l=newMc l:=if_pos h2
  obtain ⟨c,u,a,p,box,plan,cl,rfl,hM⟩:=zeT h4
  rw [e]
  exact ⟨c,u,a,p,box,plan,cl,e1,hM,fun _=>h3⟩
 ·have e:zlw l=zm0:=if_neg h2
  rw [e]
  exact ⟨.slice none 0 0,.slice none 0 0,.slice none 0 0,.slice none 0 0,.slice none 0 0,.slice none 0 0,.slice none 0 0,e1,⟨Rd.all fun w=>zmw w,Rd.all fun w=>zbJ w,Rd.all fun w=>zaq.nil w,Rd.all fun w=>zaq.nil w,Rd.all fun w=>zaq.nil w,Rd.all fun w=>zbJ w,Rd.all fun w=>zaq.nil w⟩,fun h=>absurd h h2⟩
theorem znk {l:List (List Cl)} {r:Value} {A:Nat->Prop} {w:World} (h:Rd A (zma l r) w) {N:Mc} (hn:zlw l=N):∃ c u a p box plan cl,r=.tuple #[.agg (zaO N c u a p box plan cl).toArray,I (zfq l)]/\RdM A w N c u a p box plan cl/\(zfq l=0->zbm l):=by
 subst hn
 exact znP h
open Go.RowKit Go.Mk

structure GoodC (c:Cn):Prop where
 at0:0<=c.at_
 at1:c.at_<=900
 calls:c.calls.length<=8/\∀ x ∈ c.calls,wrongCl x=0
 got:c.got.length<=900
 box:c.box.length<=900
 bytes:∀ b ∈ c.box,b.length<=140737488355328

theorem zmu {l:List (List Cl)} (hl:zbm l) {m:Mc} {ks:List Nat} {bz:Option Nat} (h:MInv l m ks bz) {k:Nat} (hs:SizeM m k) (hk:k<=800):∀ c ∈ m.clients,GoodC c/\c.box.length<=1:=fun c hc=>by
 obtain ⟨i,hi⟩:=List.mem_iff_getElem?.1 hc
 have hci:=h.clients i c hi
 have h6:=hs.each c hc
 have hat:=hci.at_
 have hb:c.box.length<=1/\∀ b ∈ c.box,b.length<=140737488355328:=by
  cases hci.phase with
  | rest _ _ _ e _=>rw [e]; exact ⟨Nat.zero_le _,fun b hb=>by cases hb⟩
  | wait _ _ _ _ e _=>rw [e]; exact ⟨Nat.zero_le _,fun b hb=>by cases hb⟩
  | work _ _ _ _ e _ _=>rw [e]; exact ⟨Nat.zero_le _,fun b hb=>by cases hb⟩
  | lost _ _ _ e _ _=>rw [e]; exact ⟨Nat.zero_le _,fun b hb=>by cases hb⟩
  | hear _ _ _ _ e =>
   rw [e]
   refine ⟨Nat.le_refl _,fun b hb=>?_⟩
   rw [List.mem_singleton.1 hb]
   exact Nat.le_trans (Nat.le_of_eq rfl) (by decide:(8:Nat)<=140737488355328)
 refine ⟨⟨by omega,by omega,?_,by omega,by omega,hb.2⟩,hb.1⟩
 rw [hci.calls,List.getD_eq_getElem?_getD]
 cases e:l[i]? with
 | none=>exact ⟨Nat.zero_le _,fun x hx=>by cases hx⟩
 | some y=>exact hl.2 y (List.mem_of_getElem? e)
theorem zn6 {X:Type} {R:El X} (hR:zjQ R) {w:World} {size:Nat} {v:Value} {xs:List X} (h:zaq size R w v xs):Rd (fun _=>True) (fun w=>zaq size R w v xs) w:=Rd.widen (Rd.of (zcS hR _ _) h) (fun _ _ _=>trivial)

open Go.RowKit Go.Mk

theorem zjf (m:Mc) (c u a p box plan cl:Value) (w:World) {A:Nat->Prop} (hx:RdM A w m c u a p box plan cl) :
  Calls Try.prog 12 #[.agg (zaO m c u a p box plan cl).toArray] w fun e w'=>e=.returned (.bool (zf3 m))/\Ext w w':=by
 obtain ⟨ka,kc,rfl,k1,k2,k3⟩:=zhr hx.clients.o;unfold maxLen at k2;have K3:=zhd k3;clear hx k3;obtain ⟨⟨sc,su,sa,sp⟩,⟨gen,bl,busy,⟨nc,nt,⟨nk,na,no,nn⟩⟩,pl,⟨se,sn⟩⟩,up,pause,falls,cls⟩:=m;unfold zf3;obtain ⟨G,HG⟩:∃ G:Bool,Hid ((cls.all fun c=>decide ((c.calls.length:Int)<=c.at_))=G):=⟨_,rfl⟩;simp only [show (cls.all fun c=>decide ((c.calls.length:Int)<=c.at_))=G from HG.o];have EW:=zhd (Ext.refl w);go_enter Try.func12,Try.ntmps12
 go_wp2_with (with_reducible refine zT ?_)
 refine zal rfl 43 (.tmp 0) rfl #[c,u,a,p,I gen,box,.bool busy,I nc,I nt,I nk,I na,I no,I nn,plan,I se,I sn,.bool up,I pause,I falls,.slice ka cls.length kc] rfl (fun b0 w1_ M1=>?_);have zab:=zmb M1;have c19:=zaa (i:=19) zab.o rfl;go_wp2
 clear c19;replace EW:=zet EW M1;go_loopw [3,9] (fun o i wr=>∃ k:Nat,k<=cls.length/\i=I k/\o=.bool ((cls.take k).all fun c=>decide ((c.calls.length:Int)<=c.at_))/\Ext w1_ wr) (fun _ i _=>cls.length - (intOf i).toNat)
 case atStart=>exact ⟨0,by omega,rfl,rfl,Ext.refl _⟩
 case round =>
  obtain ⟨k,hk,rfl,rfl,he⟩:=hrel;by_cases hlt:k < cls.length
  ·obtain ⟨x,hx⟩:∃ x,cls[k]?=some x:=⟨cls[k],List.getElem?_eq_getElem hlt⟩;obtain ⟨b,off,x1,x2,x3,rfl,c0,c1,c2,c3,c4,c5,g1⟩:=K3.o k x hx;obtain ⟨cla,clc,rfl⟩:=zac (zdk.1 g1).1;obtain ⟨cxa,cxc,rfl⟩:=zac (zdk.1 g1).2.1;obtain ⟨cga,cgc,rfl⟩:=zac (zdk.1 g1).2.2
   have HO:Hid ((cls.take (k+1)).all (fun c=>decide ((c.calls.length:Int)<=c.at_))=((cls.take k).all (fun c=>decide ((c.calls.length:Int)<=c.at_)) && decide ((x.calls.length:Int)<=x.at_))):=by
    unfold Hid; rw [List.take_add_one,hx]; simp
   clear hx g1;obtain ⟨oo,HOO⟩:∃ oo,Hid ((cls.take k).all (fun c=>decide ((c.calls.length:Int)<=c.at_))=oo):=⟨_,rfl⟩;simp only [show ((cls.take k).all (fun c=>decide ((c.calls.length:Int)<=c.at_)))=oo from HOO.o];obtain ⟨xl,xt,xs,xg,xb,xo⟩:=x;simp only [] at c0 c1 c2 c3 c4 c5;have mr:Ext w wr:=EW.o.trans he;replace c0:=mr.cell c0;replace c1:=mr.cell c1;replace c2:=mr.cell c2;replace c3:=mr.cell c3;replace c4:=mr.cell c4;replace c5:=mr.cell c5;replace EW:=zhd he;have HSZ:Hid (w1_.heap.size<=wr.heap.size):=he.size;go_wp2_with ((with_reducible refine zst (L:=[43,40,30]) ?_ ?_); exact rfl)
   clear c0 c1 c2 c3 c4 c5 mr;refine zah rfl 61 zC (by kernel_rfl) (fun b1 w11_ M11=>?_);have zad:=zmb M11;have zbu:Hid (w1_.heap.size<=b1):=by unfold Hid; have q2:=M11.o.at_; have q3:=HSZ.o; omega
   go_wp2_with (with_reducible refine zT ?_)
   refine zaf rfl 61 (.tmp 5) (.tmp 12) rfl b1 rfl [.slice cla xl.length clc,I xt,.bool xs,I xg,.slice cxa xb.length cxc,.slice cga xo.length cgc] (rfl) zad rfl zcw rfl (fun w12_ M12=>?_);replace zad:=zwb M12;have e0:=zaa (i:=0) zad.o rfl;have e1:=zaa (i:=1) zad.o rfl;replace EW:=zwe M12 (zet EW M11) zbu;cases oo
   ·go_wp2
    clear e0 e1;go_roundw
    case rel=>exact ⟨k+1,by omega,by go_num,by rw [HO.o,HOO.o]; rfl,EW.o⟩
    case measure=>simp [intOf]; omega
   ·by_cases hd:(xl.length:Int)<=xt
    ·go_wp2
     clear e0 e1;go_roundw
     case rel=>exact ⟨k+1,by omega,by go_num,by rw [HO.o,HOO.o]; simp [hd],EW.o⟩
     case measure=>simp [intOf]; omega
    ·go_wp2
     clear e0 e1;go_roundw
     case rel=>exact ⟨k+1,by omega,by go_num,by rw [HO.o,HOO.o]; simp [hd],EW.o⟩
     case measure=>simp [intOf]; omega
  ·have hkk:k=cls.length:=by omega
   have mr:Ext w wr:=EW.o.trans he;have hG:((cls.take k).all fun c=>decide ((c.calls.length:Int)<=c.at_))=G:=by rw [hkk,List.take_length]; exact HG.o
   rw [hG];clear hG HG;go_wp2
   go_ret
   exact ⟨rfl,mr⟩

open Go.RowKit Go.Mk

def zdx (p:List Rq) (n:Int):List Rq:=p.filter fun r=>decide (r.client=n)
def zc3 (p:List (Rq×(Int×Int))) (n:Int):List Rp:=(p.filter fun x=>decide (x.1.client=n)).map fun x=>⟨x.2.1,x.2.2⟩
theorem zg0 {p:List Rq} {k:Nat} {r:Rq} (n:Int) (h:p[k]?=some r):zdx (p.take (k+1)) n=if r.client=n then zdx (p.take k) n++[r] else zdx (p.take k) n:=by
 unfold zdx
 rw [List.take_add_one,h,Option.toList_some,List.filter_append]
 by_cases e:r.client=n
 ·rw [if_pos e]; simp [e]
 ·rw [if_neg e]; simp [e]
theorem zht {p:List (Rq×(Int×Int))} {k:Nat} {x:Rq×(Int×Int)} (n:Int) (h:p[k]?=some x):zc3 (p.take (k+1)) n=if x.1.client=n then zc3 (p.take k) n++[⟨x.2.1,x.2.2⟩] else zc3 (p.take k) n:=by
 unfold zc3
 rw [List.take_add_one,h,Option.toList_some,List.filter_append,List.map_append]
 by_cases e:x.1.client=n
 ·rw [if_pos e]; simp [e]
 ·rw [if_neg e]; simp [e]
theorem zfm (p:List Rq) (n:Int):(zdx p n).length<=p.length:=List.length_filter_le _ _
theorem zif (p:List (Rq×(Int×Int))) (n:Int):(zc3 p n).length<=p.length:=by
 unfold zc3
 rw [List.length_map]
 exact List.length_filter_le _ _
theorem zd3 (l:List Rq) (r:Rq):zaN (l++[r])=zaN l++[I r.client,I r.token,I r.call.kind,I r.call.name,I r.call.other,I r.call.n]:=by simp [zaN]

theorem zje (m:Mc) (c u a p box plan cl:Value) (n:Int) (w:World) (A:Nat->Prop) (h:RdM A w m c u a p box plan cl) (hl:∀ r ∈ m.store.past,wrongCl r.call=0) (hr:m.store.past.length<=1000000) :
  zba Try.prog 9 #[.agg (zaO m c u a p box plan cl).toArray,I n] w fun r w'=>∃ x y,r=.tuple #[x,y]/\w'.ownsRow w.heap.size 35 6 x (zdx m.store.past n).length (zaN (zdx m.store.past n)) /\
   w'.ownsRow w.heap.size 38 2 y (zc3 (m.store.past.zip (allCl (m.store.past.map Rq.call)).2) n).length (zbh (zc3 (m.store.past.zip (allCl (m.store.past.map Rq.call)).2) n)):=by
 unfold zba;obtain ⟨ca,cc,ua,uc,aa,ac,pa,pc,xa,xc,la,lc,ka,kc,rfl,rfl,rfl,rfl,rfl,rfl,rfl⟩:=h.slices;have HPA:=zhd h.past.o;have HL:=zhd hl;have HR:=zhd hr;clear h hl hr;obtain ⟨i0,hi,hz0,hz1,hz2⟩:=info_parts Try.infoRequest;obtain ⟨j0,hj,hy0,hy1,hy2⟩:=info_parts Try.infoReply;have EW:=zhd (Ext.refl w);go_enter Try.func9,Try.ntmps9
 go_wp2_with (with_reducible refine zT ?_)
 refine zal rfl 43 (.tmp 0) rfl #[.slice ca m.store.cells.length cc,.slice ua m.store.undo.length uc,.slice aa m.store.answers.length ac,.slice pa m.store.past.length pc,I m.server.gen,.slice xa m.server.box.length xc,.bool m.server.busy,I m.server.now.client,I m.server.now.token,I m.server.now.call.kind,I m.server.now.call.name,I m.server.now.call.other,I m.server.now.call.n,.slice la m.server.plan.length lc,I m.server.says.err,I m.server.says.n,.bool m.up,I m.pause,I m.falls,.slice ka m.clients.length kc] rfl (fun b2 w1_ M1=>?_);have zas:=zmb M1;have zbU:Hid (w.heap.size<=b2):=by unfold Hid; have q:=M1.o.at_; omega
 have c3:=zaa (i:=3) zas.o rfl;go_wp2_with fail
 replace EW:=zet EW M1;refine (zmm _ m.store.past w1_ (zbI.1 (HPA.o.ext zc1 EW.o)) HL.o (by have q:=HR.o; omega)).mono ?_;rintro e w2 ⟨r,rfl,e2,xv,yv,rfl,hx,hy⟩
 replace c3:=e2.cell c3;obtain ⟨xa2,xc2,rfl⟩:=zam hx;obtain ⟨ya,yc,rfl,y1,y2,y3⟩:=hy.form;obtain ⟨qa,qc,eq,p1,p2,p3⟩:=(zbI.1 HPA.o).form;simp only [Value.slice.injEq,true_and] at eq;obtain ⟨rfl,rfl⟩:=eq;unfold maxLen at p2 y2;have e02:Ext w w2:=EW.o.trans e2
 have P3:Hid (∀ k r,m.store.past[k]?=some r->∃ b off,pa=some ⟨b,off,none⟩/\w2.cell? ⟨b,off+k * 6,none⟩=some (I r.client)/\w2.cell? ⟨b,off+k * 6+1,none⟩=some (I r.token)/\w2.cell? ⟨b,off+k * 6+2,none⟩=some (I r.call.kind) /\
   w2.cell? ⟨b,off+k * 6+3,none⟩=some (I r.call.name)/\w2.cell? ⟨b,off+k * 6+4,none⟩=some (I r.call.other)/\w2.cell? ⟨b,off+k * 6+5,none⟩=some (I r.call.n)):=fun k r hk=>by
  obtain ⟨b,off,e1,d0,d1,d2,d3,d4,d5⟩:=p3 k r hk
  exact ⟨b,off,e1,e02.cell d0,e02.cell d1,e02.cell d2,e02.cell d3,e02.cell d4,e02.cell d5⟩
 have Y3:=zhd y3;have HPQ:=zhd HL.o;have hlen:(allCl (m.store.past.map Rq.call)).2.length=m.store.past.length:=by rw [zfh]; simp
 generalize hq:(allCl (m.store.past.map Rq.call)).2=q at *;have HLEN:=zhd hlen;have HQ:=zhd hq;have SZ2:Hid (w.heap.size<=w2.heap.size):=e02.size;clear hx hy y3 p3 hlen hq e2 EW zas M1 HPA zbU;generalize hpp:m.store.past=pp at *;have HPP:=zhd hpp;clear hpp;go_wp2_with fail
 go_loopw [8,9,10,22] (fun lv rv _ i wr=>∃ k:Nat,k<=pp.length/\i=I k/\wr.ownsRow w2.heap.size 35 6 lv (zdx (pp.take k) n).length (zaN (zdx (pp.take k) n))/\wr.ownsRow w2.heap.size 38 2 rv (zc3 ((pp.zip q).take k) n).length (zbh (zc3 ((pp.zip q).take k) n))/\Ext w2 wr/\Ext w wr) (fun _ _ _ i _=>pp.length - (intOf i).toNat)
 case atStart=>exact ⟨0,Nat.zero_le _,rfl,World.ownsRow_nil _ _ _ _,World.ownsRow_nil _ _ _ _,Ext.refl w2,e02⟩
 case round =>
  obtain ⟨k,hk,rfl,hl,hr,he2,he⟩:=hrel;replace c3:=he2.cell c3;by_cases hlt:k < pp.length
  ·have hgk:pp[k]?=some pp[k]:=List.getElem?_eq_getElem hlt;obtain ⟨b,off,rfl,d0,d1,d2,d3,d4,d5⟩:=P3.o k _ hgk;replace d0:=he2.cell d0;replace d1:=he2.cell d1;replace d2:=he2.cell d2;replace d3:=he2.cell d3;replace d4:=he2.cell d4;replace d5:=he2.cell d5;have hkq:k < q.length:=by have z:=HLEN.o; omega
   have hgq:q[k]?=some q[k]:=List.getElem?_eq_getElem hkq;have hgz:(pp.zip q)[k]?=some (pp[k],q[k]):=by rw [List.getElem?_zip_eq_some]; exact ⟨hgk,hgq⟩
   have HM:=zhd (zg0 n hgk);have HT:=zhd (zht n hgz);obtain ⟨yb,yo,rfl,f0,f1⟩:=Y3.o k hkq;rw [show q.getD k (0,0)=q[k] by rw [List.getD_eq_getElem?_getD,hgq]; rfl] at f0 f1;have F0:=zhd f0;have F1:=zhd f1;clear f0 f1;have hlm:=zfm (pp.take k) n;have hlt2:=zif ((pp.zip q).take k) n;rw [List.length_take] at hlm hlt2;generalize pp[k]=rq at *;generalize q[k]=yq at *;obtain ⟨rc,tk,kd,nm,ot,nn⟩:=rq;obtain ⟨ye,yn⟩:=yq;simp only [] at d0 d1 d2 d3 d4 d5 F0 F1 HM HT;clear hgk hgq hgz;have hB:pp.length<=1000000:=HR.o;generalize hML:zdx (pp.take k) n=ML at *;generalize hTL:zc3 ((pp.zip q).take k) n=TL at *;clear hML hTL;by_cases hc:rc=n
   ·replace hc:=hc.symm;subst hc;go_wp2_with (at_builtin; refine zbl ?_)
    unfold Hid;refine zav _ rfl (.tmp 34) (.tmp 41) 28 rfl w2.heap.size 35 i0 (.agg #[.int .i64 0,.int .i64 0,.int .i64 0,.int .i64 0,.int .i64 0,.int .i64 0]) 6 48 zgO hi hz0 hz1 hz2 rfl (by decide) u8 ML.length (zaN ML) rfl (hl.alloc _) _ rfl 1 [I n,I tk,I kd,I nm,I ot,I nn] (Row.of_owns (zbC (zhE wr _) (Nat.le_refl _) rfl (by decide))) (fun u hu=>by simp at hu; rcases hu with rfl | rfl | rfl | rfl | rfl | rfl <;> rfl) (by omega) (by decide) (by have z:=he2.size; simp; omega) ?_;intro o' w3 ho3 hg3;have hr3:=(hr.alloc (.cells #[I n,I tk,I kd,I nm,I ot,I nn] 35)).kept hg3 (zbW (hr.alloc (.cells #[I n,I tk,I kd,I nm,I ot,I nn] 35)) (hl.alloc (.cells #[I n,I tk,I kd,I nm,I ot,I nn] 35)) (by decide));have he3:Ext w2 w3:=(he2.alloc _).grown hg3 (fun j hj=>(hl.lt j hj).1);have hew3:Ext w w3:=(he.alloc _).grown hg3 (fun j hj=>Nat.le_trans SZ2.o (hl.lt j hj).1);have f0:=he3.cell F0.o;have f1:=he3.cell F1.o;clear hg3 d0 d1 d2 d3 d4 d5 c3 hl hr he2 he;go_wp2_with (at_builtin; refine zbl ?_)
    unfold Hid;refine zav _ rfl (.tmp 43) (.tmp 48) 47 rfl w2.heap.size 38 j0 (.agg #[.int .i64 0,.int .i64 0]) 2 16 zg5 hj hy0 hy1 hy2 rfl (by decide) u9 TL.length (zbh TL) rfl (hr3.alloc _) _ rfl 1 [I ye,I yn] (Row.of_owns (zbC (zhE w3 _) (Nat.le_refl _) rfl (by decide))) (fun u hu=>by simp at hu; rcases hu with rfl | rfl <;> rfl) (by rw [List.length_zip] at hlt2; omega) (by decide) (by have z:=he3.size; simp; omega) ?_;intro o2 w4 ho4 hg4;have hl4:=(ho3.alloc (.cells #[I ye,I yn] 38)).kept hg4 (zbW (ho3.alloc (.cells #[I ye,I yn] 38)) (hr3.alloc (.cells #[I ye,I yn] 38)) (by decide));have he4:Ext w2 w4:=(he3.alloc _).grown hg4 (fun j hj=>(hr3.lt j hj).1);have hew4:Ext w w4:=(hew3.alloc _).grown hg4 (fun j hj=>Nat.le_trans SZ2.o (hr3.lt j hj).1);clear hg4 f0 f1;go_wp2
    go_roundw
    case rel =>
     refine ⟨k+1,by omega,by go_num,?_,?_,he4,hew4⟩
     ·rw [HM.o,if_pos trivial,List.length_append,zd3]; exact hl4
     ·rw [HT.o,if_pos trivial,List.length_append,zck]; exact ho4
    case measure=>simp [intOf]; omega
   ·have hdc:decide (rc=n)=false:=by simp [hc]
    go_wp2
    go_roundw
    case rel =>
     refine ⟨k+1,by omega,by go_num,?_,?_,he2,he⟩
     ·rw [HM.o,if_neg hc]; exact hl
     ·rw [HT.o,if_neg hc]; exact hr
    case measure=>simp [intOf]; omega
  ·go_wp2
   go_ret2
   rw [List.take_of_length_le (by omega)] at hl;rw [List.take_of_length_le (by rw [List.length_zip]; omega)] at hr;have z1:=HPP.o;subst z1;have z2:=HQ.o;subst z2;exact ⟨_,rfl,he,_,_,rfl,zby hl SZ2.o,zby hr SZ2.o⟩

open Go.RowKit Go.Mk

structure LookM (m:Mc):Prop where
 cells:m.store.cells.length=11
 most:0<=(zao m.store.cells m.store.undo).getD 0 0/\(zao m.store.cells m.store.undo).getD 0 0<=5
 past:∀ r ∈ m.store.past,wrongCl r.call=0
 len:m.store.past.length<=1000
 small:zkf m
 each:∀ c ∈ m.clients,GoodC c

def zjn:Prop:=∀ (m:Mc) (c u a p box plan cl:Value) (w:World) (A:Nat->Prop),RdM A w m c u a p box plan cl->LookM m->zba Try.prog 14 #[.agg (zaO m c u a p box plan cl).toArray] w fun r w'=>zan w' r (zaZ (zao m.store.cells m.store.undo))
def zf1:Prop:=∀ (m:Mc) (c u a p box plan cl:Value) (n:Int) (w:World) (A:Nat->Prop),RdM A w m c u a p box plan cl->LookM m->zba Try.prog 8 #[.agg (zaO m c u a p box plan cl).toArray,I n] w fun r w'=>∃ x y,r=.tuple #[x,y]/\zaq 6 zes w' x (zdx m.store.past n)/\zaq 2 zdA w' y (zc3 (m.store.past.zip (allCl (m.store.past.map Rq.call)).2) n)
def zhl:Prop:=∀ (m:Mc) (c u a p box plan cl:Value) (w:World) (A:Nat->Prop),RdM A w m c u a p box plan cl->LookM m->zba Try.prog 11 #[.agg (zaO m c u a p box plan cl).toArray] w fun r _=>r=.bool (zf3 m)
def zf9:Prop:=∀ (m:Mc) (c u a p box plan cl:Value) (w:World) (A:Nat->Prop),RdM A w m c u a p box plan cl->LookM m->zba Try.prog 18 #[.agg (zaO m c u a p box plan cl).toArray] w fun r _=>∃ b:Bool,r=.bool b/\(b=true↔zd6 m)

theorem zg1 {base e size n g:Nat} {cs:List Value} {w:World} {B:Nat->Prop} (h:w.ownsRow base e size (.slice (some ⟨g,0,none⟩) n n) n cs) (hB:B g):Rd B (fun w=>Row w size (.slice (some ⟨g,0,none⟩) n n) n cs) w:=zdO h fun g' hg=>by
 have e:g=g':=by simpa [Value.ownBlock] using hg
 rw [<- e]
 exact hB
theorem ziv {l:List (List Cl)} {m:Mc} {k:Nat} (h:Gd l m k) (hk:k<=800):LookM m:=by
 obtain ⟨h1,⟨ks,bz,h2⟩,h3⟩:=h
 obtain ⟨_,q1,q2,_⟩:=(zem _).1 h2.right
 exact ⟨h2.cells,⟨q1,q2⟩,fun r hr=>by obtain ⟨i,t,hi,ht,rfl⟩:=h2.past r hr; exact zeB h1 hi ht,by have:=h3.past; omega,zim h1 h2 h3 (by omega),fun c hc=>(zmu h1 h2 h3 hk c hc).1⟩
theorem zjA {l:List (List Cl)} {m:Mc} {k:Nat} (h:Gd l m k):zd6 m:=by
 obtain ⟨h1,⟨ks,bz,h2⟩,h3⟩:=h
 exact zlk h2

end Go.Proofs.Ytdmipnnfoolelaf
