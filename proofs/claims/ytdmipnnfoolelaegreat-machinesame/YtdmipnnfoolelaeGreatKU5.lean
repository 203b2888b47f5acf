/- Texts of the proof, merged: N17 J1. -/
import Derived.Test.YtdmipnnfoolelaeGreatKUA
import Derived.Test.YtdmipnnfoolelaeGreatKU4
import Derived.Test.YtdmipnnfoolelaeGreatKUH
import Derived.Test.YtdmipnnfoolelaeGreatKUF
import Derived.Test.YtdmipnnfoolelaeGreatKU1
set_option maxHeartbeats 4000000
set_option maxRecDepth 100000

namespace Go.Proofs.YtdmipnnfoolelaeGreat
open Go.RowKit Go.Mk

theorem Tryz.infoErrno:(Tryz.prog.info? 37).map (fun i=>(i.zero,i.size,i.bytes))=some (some (.int .i64 0),1,8):=by kernel_rfl

def zf1 (m:Mc):List (Int×Int)->List Int
 | []=>[]
 | p::l=>(doM m p.1 p.2).2::zf1 (doM m p.1 p.2).1 l
theorem playE_snoc (p:Int×Int):∀ (l:List (Int×Int)) (m:Mc),zf1 m (l++[p])=zf1 m l++[(doM (zd3 m l) p.1 p.2).2]
 | [],m=>rfl
 | q::l,m=>by
  show (doM m q.1 q.2).2::zf1 (doM m q.1 q.2).1 (l++[p])=_
  rw [playE_snoc p l]
  rfl
theorem playM_snoc (p:Int×Int) (l:List (Int×Int)) (m:Mc):zd3 m (l++[p])=(doM (zd3 m l) p.1 p.2).1:=by
 unfold zd3
 rw [List.foldl_append]
 rfl
theorem znJ {l:List (Int×Int)} {k:Nat} (h:k < l.length):l.take (k+1)=l.take k++[l.getD k (0,0)]:=by
 rw [List.take_add_one,List.getElem?_eq_getElem h,List.getD_eq_getElem?_getD,List.getElem?_eq_getElem h]
 rfl
theorem zpp {l:List (List Cl)} (hl:zbD l) (steps:List (Int×Int)) {k:Nat} (hk:k<=400):Fit (zd3 (zba l) (steps.take k)):=by
 obtain ⟨ks,bz,h⟩:=znG hl (steps.take k)
 have hs:=zkA (zjM l) (steps.take k)
 exact zpT hl h (hs.mono (j:=400) (by rw [List.length_take]; omega)) (by omega)

def zpH (l:List (List Cl)) (steps:List (Int×Int)) (r:Value) (w:World):Prop:=∃ (cs:List Value) (es:Value),r=.tuple #[.agg cs.toArray,es]/\zd1 w cs (zd3 (zba l) (steps.take 400))/\zbB w es (zf1 (zba l) (steps.take 400))
theorem zlk {l:List (List Cl)} {steps:List (Int×Int)} {r:Value} {A:Nat->Prop} {w:World} (h:Rd A (zpH l steps r) w):∃ (cs:List Value) (es:Value),r=.tuple #[.agg cs.toArray,es]/\Rd A (fun w=>zd1 w cs (zd3 (zba l) (steps.take 400))) w/\Rd A (fun w=>zbB w es (zf1 (zba l) (steps.take 400))) w:=by
 obtain ⟨cs,es,e1,h1,h2⟩:=h.o
 have key:∀ w',zpH l steps r w'->zd1 w' cs (zd3 (zba l) (steps.take 400))/\zbB w' es (zf1 (zba l) (steps.take 400)):=fun w' hw=>by
  obtain ⟨cs',es',e1',h3,h4⟩:=hw
  rw [e1] at e1'
  simp only [Value.tuple.injEq,Array.mk.injEq,List.cons.injEq,Value.agg.injEq,and_true] at e1'
  obtain ⟨q1,q2⟩:=e1'
  have q1:cs=cs':=by simpa using q1
  subst q1 q2
  exact ⟨h3,h4⟩
 exact ⟨cs,es,e1,h.imp fun w' hw=>(key w' hw).1,h.imp fun w' hw=>(key w' hw).2⟩

theorem ze4 (v sv:Value) (l:List (List Cl)) (steps:List (Int×Int)) (w:World) (A:Nat->Prop) (hl:zbD l) (hv:Rd A (fun w=>zar 1 zdL w v l) w) (hs:zax w sv steps) :
  zaQ Tryz.prog 9 #[v,sv] w A (zpH l steps):=by
 unfold zaQ;obtain ⟨sa0,scap,rfl,s1,s2,s3⟩:=hs.form;unfold maxLen at s2;have HS3:=zhd s3;have HL:=zhd hl;have HV:=zhd (hv.widen (B:=fun k=>A k/\k < w.heap.size) (fun k hk h=>⟨h,hk⟩));clear hv hs s3 hl;obtain ⟨va,vcap,rfl⟩:=zaf HV.o.o;obtain ⟨j0,hj,hy0,hy1,hy2⟩:=info_parts Tryz.infoErrno;have HJ:=zhd hj;clear hj;have EW:=zhd (Ext.refl w);go_enter Tryz.func9,Tryz.ntmps9
 go_wp2_with (with_reducible refine zT ?_)
 refine zae rfl 44 zM (by kernel_rfl) (fun b0 w1_ M1=>?_);have zab:=zmb M1;have zbr:Hid (w.heap.size<=b0):=by unfold Hid; have q:=M1.o.at_; omega
 go_wp2_with fail
 refine (zfF _ l w1_ (fun k=>A k/\k < w.heap.size) (HV.o.ext M1.o.ext)).to fun r w2 e2 hr=>?_;obtain ⟨cs,e,rfl,hc⟩:=zmE hr;replace EW:=zet EW M1;rcases hc with ⟨rfl,-,hm⟩ | ⟨-,-,hno⟩
 case inr=>exact absurd HL.o hno
 obtain ⟨c,u,a,p,box,plan,cl,rfl,hM⟩:=zcP hm;obtain ⟨ca,cc,ua,uc,aa,ac,pa,pc,xa,xc,la,lc,ka,kc,rfl,rfl,rfl,rfl,rfl,rfl,rfl⟩:=hM.slices;have H:=zhd hM;clear hM hm hr;have e2':=zhd e2;replace zab:=zbx zab e2;replace EW:=zhd (EW.o.trans e2);clear e2;go_wp2_with (with_reducible refine zT ?_)
 refine zae rfl 44 zM (by kernel_rfl) (fun b1 w2_ M2=>?_);have zay:=zld zab M2;have zad:=zmb M2;have za4:Hid (w.heap.size<=b1):=by unfold Hid; have q:=zay.o; have q2:=zbr.o; omega
 obtain ⟨E,HE⟩:∃ E:Nat->Prop,Hid (∀ k,E k↔(((A k/\k < w.heap.size)∨w1_.heap.size<=k)/\k < b1)):=⟨_,fun _=>Iff.rfl⟩;replace H:=zhd ((H.o.widen (B:=E) (fun k hk h=>(HE.o k).2 ⟨h,by have q:=M2.o.at_; omega⟩)).ext M2.o.ext);have zaF:Hid (¬ E b0):=fun h=>by have q:=((HE.o _).1 h).1; have q1:=M1.o.at_; have q2:=M1.o.size; omega
 have zau:Hid (¬ E b1):=fun h=>by have q:=((HE.o _).1 h).2; omega
 go_wp2_with (with_reducible refine zT ?_)
 refine zac rfl 44 (.tmp 6) (.tmp 16) rfl b1 rfl [.slice ca (zba l).store.cells.length cc,.slice ua (zba l).store.undo.length uc,.slice aa (zba l).store.answers.length ac,.slice pa (zba l).store.past.length pc,I (zba l).server.gen,.slice xa (zba l).server.box.length xc,.bool (zba l).server.busy,I (zba l).server.now.client,I (zba l).server.now.token,I (zba l).server.now.call.kind,I (zba l).server.now.call.name,I (zba l).server.now.call.other,I (zba l).server.now.call.n,.slice la (zba l).server.plan.length lc,I (zba l).server.says.err,I (zba l).server.says.n,.bool (zba l).up,I (zba l).pause,I (zba l).falls,.slice ka (zba l).clients.length kc] (rfl) zad rfl zaO rfl (fun w3_ M3=>?_);replace zad:=zwb M3;go_wp2_with fail
 replace zab:=zwl M3 (zmo M2 zab) zay;replace EW:=zwe M3 (zet EW M2) za4;replace H:=zHw M3 H zau;go_loopw [8,20] (fun es i wr=>∃ (k:Nat) (E:Nat->Prop) (mk:Mc) (c u a p box plan cl:Value),k<=steps.length/\k<=400/\i=I k/\mk=zd3 (zba l) (steps.take k)/\RdM E wr mk c u a p box plan cl/\(∀ j,E j->j < wr.heap.size/\(A j∨w.heap.size<=j))/\¬ E b0/\¬ E b1/\(∀ g,es.ownBlock=some g->¬ E g)/\wr.heap[b0]?=some (.cells zM 44 (0,0))/\wr.heap[b1]?=some (.cells (zaW mk c u a p box plan cl).toArray 44 (0,0))/\wr.ownsRow (b1+1) 37 1 es k ((zf1 (zba l) (steps.take k)).map I)/\Ext w wr) (fun _ i _=>steps.length - (intOf i).toNat)
 case atStart=>exact ⟨0,E,zba l,_,_,_,_,_,_,_,Nat.zero_le _,Nat.zero_le _,rfl,rfl,H.o,fun j hj=>⟨by have q:=(HE.o j).1 hj; have q2:=(zlt zad); omega,by rcases ((HE.o j).1 hj).1 with h | h; exact .inl h.1; exact .inr (by have q:=M1.o.ext.size; omega)⟩,zaF.o,zau.o,fun g hg=>(by cases hg),zab.o,zad.o,World.ownsRow_nil _ _ _ _,EW.o⟩
 case round =>
  obtain ⟨k,E',mk,c',u',a',p',box',plan',cl',hk,h4,rfl,hmk,hm,hE,n0,n1,hes,hb0,hb1,ho,hex⟩:=hrel;clear zab zad H EW zaF zau HE e2';obtain ⟨ca,cc,ua,uc,aa,ac,pa,pc,xa,xc,la,lc,ka,kc,rfl,rfl,rfl,rfl,rfl,rfl,rfl⟩:=hm.slices;obtain ⟨ea,ecap,rfl⟩:=zcZ ho;have HM:=zhd hmk;have H:=zhd hm;have HE:=zhd hE;have zaF:=zhd n0;have zau:=zhd n1;have HES:=zhd hes;have zab:=zhd hb0;have zad:Hid (wr.heap[b1]?=some (.cells #[.slice ca mk.store.cells.length cc,.slice ua mk.store.undo.length uc,.slice aa mk.store.answers.length ac,.slice pa mk.store.past.length pc,I mk.server.gen,.slice xa mk.server.box.length xc,.bool mk.server.busy,I mk.server.now.client,I mk.server.now.token,I mk.server.now.call.kind,I mk.server.now.call.name,I mk.server.now.call.other,I mk.server.now.call.n,.slice la mk.server.plan.length lc,I mk.server.says.err,I mk.server.says.n,.bool mk.up,I mk.pause,I mk.falls,.slice ka mk.clients.length kc] 44 (0,0))):=hb1;have OE:=zhd ho;have EW:=zhd hex;clear hmk hm hE n0 n1 hes hb0 hb1 ho hex;generalize hEr:(E':Nat->Prop)=E at *;clear hEr E';by_cases hlt:k < steps.length
  ·by_cases h400:k=400
   ·subst h400;obtain ⟨sb,so,rfl,c0,c1⟩:=HS3.o 400 hlt;replace c0:=EW.o.cell c0;replace c1:=EW.o.cell c1;generalize steps.getD 400 (0,0)=pp at c0 c1;obtain ⟨kd,sn⟩:=pp;simp only [] at c0 c1;have OE0:=OE;go_wp2_with (with_reducible refine zT ?_)
    clear c0 c1;refine zae rfl 25 #[I 0,I 0] (by kernel_rfl) (fun b2 w41_ M41=>?_);have za2:=zld zab M41;have zaJ:=zld zad M41;have zal:=zmb M41;have zaT:Hid (¬ E b2):=fun h=>by have q:=(HE.o _ h).1; have q1:=M41.o.at_; omega
    have zbu:Hid (w.heap.size<=b2):=by unfold Hid; have q:=zaJ.o; have q2:=za4.o; omega
    have OEN:Hid ((Value.slice ea 400 ecap).ownBlock≠some b2):=fun e=>by have q:=(OE0.o.lt _ e).2; have q1:=M41.o.at_; omega
    go_wp2_with (with_reducible refine zT ?_)
    refine zac rfl 25 (.tmp 10) (.tmp 24) rfl b2 rfl [I kd,I sn] (rfl) zal rfl zq3 rfl (fun w42_ M42=>?_);replace zal:=zwb M42;go_wp2_with (with_reducible refine zT ?_)
    replace zad:=zwl M42 (zmo M41 zad) zaJ;refine zah rfl 44 (.tmp 6) rfl b1 rfl zad za3 zaO (fun v39 H_v39=>?_);go_wp2_with (with_reducible refine zT ?_)
    replace zab:=zwl M42 (zmo M41 zab) za2;refine zac rfl 44 (.tmp 4) (.tmp 39) rfl b0 rfl _ (zcv H_v39) zab rfl zaO rfl (fun w43_ M43=>?_);replace zab:=zwb M43;replace OE:=zhd (M42.o.owns (zhd (zak OE.o M41.o.ext)).o OEN.o);replace OE:=zhd (M43.o.owns OE.o (fun e=>by have q:=(OE.o.lt _ e).1; have q2:=zay.o; omega));go_wp2
    have z0:=zaq (P:=Tryz.prog) 44 zab.o za3 (by kernel_rfl);refine bodyPost_ret (by simp [results,Tryz.results9,asAddr,z0]; rfl) rfl ?_;have hmm:=HM.o;have hoe:=OE.o;replace H:=zHw M43 (zHw M42 (zhd (H.o.ext M41.o.ext)) zaT) zaF;have r1:=(H.o.widen (B:=fun k=>A k∨w.heap.size<=k) (fun k _ h=>(HE.o k h).2)).mc;rw [hmm] at r1;have r2:=(zdP hoe).widen (B:=fun k=>A k∨w.heap.size<=k) (fun k _ h=>.inr (by have q:=za4.o; omega));have hlen:(zf1 (zba l) (steps.take 400)).length=400:=by have q:=hoe.1; simpa using q
    replace EW:=zwe M43 (zwe M42 (zet EW M41) zbu) zbr;refine ⟨_,rfl,EW.o,(r1.and r2).imp fun w' h=>⟨_,_,(by rw [<- hmm]),h.1,?_⟩⟩;have h2:=h.2;unfold zbB;rw [hlen];exact h2
   ·have h400i:((k:Int) == 400)=false:=by simpa using (fun h:(k:Int)=400=>h400 (by omega))
    have hk4:k < 400:=by omega
    have HT:=zhd (znJ hlt);have FIT:=zhd (zpp HL.o steps h4);rw [<- HM.o] at FIT;obtain ⟨sb,so,rfl,c0,c1⟩:=HS3.o k hlt;replace c0:=EW.o.cell c0;replace c1:=EW.o.cell c1;generalize steps.getD k (0,0)=pp at *;obtain ⟨kd,sn⟩:=pp;simp only [] at c0 c1;have OE0:=OE;go_wp2_with (with_reducible refine zT ?_)
    clear c0 c1;refine zae rfl 25 #[I 0,I 0] (by kernel_rfl) (fun b2 w61_ M61=>?_);have za2:=zld zab M61;have zaJ:=zld zad M61;have zal:=zmb M61;have B2AT:Hid (b2=wr.heap.size):=M61.o.at_;have zaT:Hid (¬ E b2):=fun h=>by have q:=(HE.o _ h).1; have q1:=M61.o.at_; omega
    have zbu:Hid (w.heap.size<=b2):=by unfold Hid; have q:=zaJ.o; have q2:=za4.o; omega
    have OEN:Hid ((Value.slice ea k ecap).ownBlock≠some b2):=fun e=>by have q:=(OE0.o.lt _ e).2; have q1:=M61.o.at_; omega
    go_wp2_with (with_reducible refine zT ?_)
    refine zac rfl 25 (.tmp 10) (.tmp 24) rfl b2 rfl [I kd,I sn] (rfl) zal rfl zq3 rfl (fun w62_ M62=>?_);replace zal:=zwb M62;clear h400;go_wp2_with (with_reducible refine zT ?_)
    clear h400i;replace zad:=zwl M62 (zmo M61 zad) zaJ;refine zah rfl 44 (.tmp 6) rfl b1 rfl zad za3 zaO (fun v28 H_v28=>?_);have q0:=zaa (i:=0) zal.o rfl;have q1:=zaa (i:=1) zal.o rfl;go_wp2_with fail
    clear q0 q1;rw [show _=Value.agg #[.slice ca mk.store.cells.length cc,.slice ua mk.store.undo.length uc,.slice aa mk.store.answers.length ac,.slice pa mk.store.past.length pc,I mk.server.gen,.slice xa mk.server.box.length xc,.bool mk.server.busy,I mk.server.now.client,I mk.server.now.token,I mk.server.now.call.kind,I mk.server.now.call.name,I mk.server.now.call.other,I mk.server.now.call.n,.slice la mk.server.plan.length lc,I mk.server.says.err,I mk.server.says.n,.bool mk.up,I mk.pause,I mk.falls,.slice ka mk.clients.length kc] from H_v28.o];replace H:=zHw M62 (zhd (H.o.ext M61.o.ext)) zaT;refine (zii mk _ _ _ _ _ _ _ kd sn w62_ E H.o FIT.o).to fun r w9 e9 hr=>?_;obtain ⟨m2,er,hD⟩:∃ x y,doM mk kd sn=(x,y):=⟨_,_,rfl⟩;rw [hD] at hr;have HD:=zhd hD;clear hD H_v28;simp only [] at hr;obtain ⟨cs,rfl,hcs⟩:=zeh hr;obtain ⟨c2,u2,a2,p2,box2,plan2,cl2,rfl,hm2⟩:=zcP hcs;obtain ⟨ca2,cc2,ua2,uc2,aa2,ac2,pa2,pc2,xa2,xc2,la2,lc2,ka2,kc2,rfl,rfl,rfl,rfl,rfl,rfl,rfl⟩:=hm2.slices;clear hcs hr H;have H:=zhd hm2;clear hm2;have SC:Hid (b2 < w62_.heap.size):=(zlt zal);have SC9:Hid (w62_.heap.size<=w9.heap.size):=e9.size;have OES:Hid (∀ g,(Value.slice ea k ecap).ownBlock=some g->g < b2):=fun g hg=>by have q:=(OE0.o.lt g hg).2; have q1:=(zlt zal); have q2:=B2AT.o; omega
    replace zab:=zbx (zwl M62 (zmo M61 zab) za2) e9;replace OE:=zhd (zak (zhd (M62.o.owns (zhd (zak OE.o M61.o.ext)).o OEN.o)).o e9);replace EW:=zhd ((zwe M62 (zet EW M61) zbu).o.trans e9);replace zad:=zbx zad e9;replace zal:=zbx zal e9;clear e9;go_wp2_with (with_reducible refine zT ?_)
    refine zae rfl 44 zM (by kernel_rfl) (fun b3 w63_ M63=>?_);have za7:=zld zab M63;have zaV:=zld zad M63;have zbf:=zld zal M63;have zat:=zmb M63;obtain ⟨E2,HE2⟩:∃ X:Nat->Prop,Hid (∀ k,X k↔((E k∨w62_.heap.size<=k)/\k < b3)):=⟨_,fun _=>Iff.rfl⟩;replace H:=zhd ((H.o.widen (B:=E2) (fun k hk h=>(HE2.o k).2 ⟨h,by have q:=M63.o.at_; omega⟩)).ext M63.o.ext);have za8:Hid (¬ E2 b3):=fun h=>by have q:=((HE2.o _).1 h).2; omega
    replace zau:Hid (¬ E2 b1):=fun h=>by rcases ((HE2.o _).1 h).1 with q | q; exact zau.o q; exact absurd q (by have q1:=zaJ.o; have q2:=SC.o; omega)
    replace zaF:Hid (¬ E2 b0):=fun h=>by rcases ((HE2.o _).1 h).1 with q | q; exact zaF.o q; exact absurd q (by have q1:=zay.o; have q3:=zaJ.o; have q2:=SC.o; omega)
    have HG:Hid (∀ g,(Value.slice ea k ecap).ownBlock=some g->¬ E2 g):=fun g hg h=>by rcases ((HE2.o _).1 h).1 with q | q; exact HES.o g hg q; exact absurd q (by have q1:=OES.o g hg; have q2:=SC.o; omega)
    have HIN:Hid (∀ j,E2 j->j < b3/\(A j∨w.heap.size<=j)):=fun j h=>⟨((HE2.o _).1 h).2,by rcases ((HE2.o _).1 h).1 with q | q; exact (HE.o j q).2; exact .inr (by have q1:=zbu.o; have q2:=SC.o; omega)⟩;have zcA:Hid (w.heap.size<=b3):=by unfold Hid; have q:=zaV.o; have q2:=za4.o; omega
    clear HE2 HES HE zaT;go_wp2_with (with_reducible refine zT ?_)
    refine zac rfl 44 (.tmp 11) (.tmp 31) rfl b3 rfl [.slice ca2 m2.store.cells.length cc2,.slice ua2 m2.store.undo.length uc2,.slice aa2 m2.store.answers.length ac2,.slice pa2 m2.store.past.length pc2,I m2.server.gen,.slice xa2 m2.server.box.length xc2,.bool m2.server.busy,I m2.server.now.client,I m2.server.now.token,I m2.server.now.call.kind,I m2.server.now.call.name,I m2.server.now.call.other,I m2.server.now.call.n,.slice la2 m2.server.plan.length lc2,I m2.server.says.err,I m2.server.says.n,.bool m2.up,I m2.pause,I m2.falls,.slice ka2 m2.clients.length kc2] (rfl) zat rfl zaO rfl (fun w64_ M64=>?_);replace zat:=zwb M64;replace OE:=zhd (zak OE.o M63.o.ext);replace OE:=zhd (M64.o.owns OE.o (fun e=>by have q:=OES.o _ e; have q2:=zbf.o; omega));go_wp2_with (with_reducible refine zT ?_)
    refine zah rfl 44 (.tmp 11) rfl b3 rfl zat za3 zaO (fun v33 H_v33=>?_);go_wp2_with (with_reducible refine zT ?_)
    replace zad:=zwl M64 (zmo M63 zad) zaV;refine zac rfl 44 (.tmp 6) (.tmp 33) rfl b1 rfl _ (zcv H_v33) zad rfl zaO rfl (fun w65_ M65=>?_);replace zad:=zwb M65;replace OE:=zhd (M65.o.owns OE.o (fun e=>by have q:=(OE.o.lt _ e).1; omega));go_wp2_with (with_reducible refine zT ?_)
    unfold Hid;refine zcU rfl 37 1 #[I er] (by kernel_rfl) (fun bl w66_ M66=>?_);replace zab:=zwl M65 (zwl M64 (zmo M63 zab) za7) zay;replace zal:=zwg M65 (zwl M64 (zmo M63 zal) zbf) zaJ;replace zat:=zwg M65 zat zaV;have zq8:=zmb M66;go_wp2_with (first | (at_builtin; refine zbw ?_) | (with_reducible refine zT ?_))
    unfold Hid;have hlit:=Row.of_owns (zeD (base:=0) (size:=1) (n:=1) M66.o (Nat.zero_le _) rfl (by decide));replace zad:=zmo M66 zad;have hszl:b1+1<=w66_.heap.size:=(zlt zad);replace zat:=zmo M66 zat;have SB3:Hid (b3 < w66_.heap.size):=(zlt zat);replace OE:=zhd (zak OE.o M66.o.ext);refine zeu rfl (.tmp 34) (.tmp 36) 48 rfl (b1+1) 37 j0 (.int .i64 0) 1 8 zrM HJ.o hy0 hy1 hy2 rfl (by decide) (.slice ea k ecap) k _ rfl OE.o _ rfl 1 _ hlit (zbJ rfl) (by omega) (by decide) hszl ?_;intro v37 wq ho hg hfr;clear hlit hszl;have hlo:∀ b,b<=b1->(Value.slice ea k ecap).ownBlock≠some b:=fun b hb e=>by have:=(OE.o.lt b e).1; omega
    replace zab:=zmo M66 zab;have kb0:=zfi hg zab.o (hlo b0 (Nat.le_of_lt zay.o));have kb1:=zfi hg zad.o (hlo b1 (Nat.le_refl _));replace EW:=zet (zwe M65 (zwe M64 (zet EW M63) zcA) za4) M66;have kew:Ext w wq:=EW.o.grown hg (fun b e=>by have q:=(OE.o.lt b e).1; have q2:=za4.o; omega);replace H:=zhd ((zHw M65 (zHw M64 H za8) zau).o.ext M66.o.ext);have kh:RdM E2 wq m2 _ _ _ _ _ _ _:=⟨H.o.cells.grown hg HG.o,H.o.undo.grown hg HG.o,H.o.answers.grown hg HG.o,H.o.past.grown hg HG.o,H.o.box.grown hg HG.o,H.o.plan.grown hg HG.o,H.o.clients.grown hg HG.o⟩;have ksz:b3 < wq.heap.size:=Nat.lt_of_lt_of_le SB3.o hg.size
    have KF:Hid (∀ g,v37.ownBlock=some g->¬ E2 g):=fun g hgv h=>by
     rcases hfr with hf | hf
     ·rw [hf] at hgv;exact HG.o g hgv h
     ·have q:=hf g hgv;have q2:=(HIN.o g h).1;have q3:=SB3.o;omega
    clear zab zad zal zat zq8 EW H hg hfr hlo OE0;have K0:=zhd kb0;have K1:=zhd kb1;have KE:=zhd kew;have KH:=zhd kh;have KO:=zhd ho;have KS:=zhd ksz;clear kb0 kb1 kew kh ho ksz OE;obtain ⟨na,ncap,rfl⟩:=zcZ KO.o;go_wp2
    go_roundw
    case rel =>
     have hp:m2=zd3 (zba l) (steps.take (k+1)):=by
      rw [HT.o,playM_snoc,<- HM.o];exact (congrArg Prod.fst HD.o).symm
     have he:zf1 (zba l) (steps.take (k+1))=zf1 (zba l) (steps.take k)++[er]:=by
      rw [HT.o,playE_snoc,<- HM.o];have q:=congrArg Prod.snd HD.o;simp only [] at q;rw [q]
     refine ⟨k+1,E2,m2,_,_,_,_,_,_,_,by omega,by omega,by go_num,hp,KH.o,fun j hj=>⟨by have q:=(HIN.o j hj).1; have q2:=KS.o; omega,(HIN.o j hj).2⟩,zaF.o,zau.o,KF.o,K0.o,K1.o,?_,KE.o⟩;rw [he,List.map_append];exact KO.o
    case measure=>simp [intOf]; omega
  ·have hkl:k=steps.length:=by omega
   subst hkl;go_wp2_with (with_reducible refine zT ?_)
   refine zah rfl 44 (.tmp 6) rfl b1 rfl zad za3 zaO (fun v39 H_v39=>?_);go_wp2_with (with_reducible refine zT ?_)
   refine zac rfl 44 (.tmp 4) (.tmp 39) rfl b0 rfl _ (zcv H_v39) zab rfl zaO rfl (fun w41_ M41=>?_);replace zab:=zwb M41;replace OE:=zhd (M41.o.owns OE.o (fun e=>by have q:=(OE.o.lt _ e).1; have q2:=zay.o; omega));go_wp2
   have z0:=zaq (P:=Tryz.prog) 44 zab.o za3 (by kernel_rfl);refine bodyPost_ret (by simp [results,Tryz.results9,asAddr,z0]; rfl) rfl ?_;have ht:steps.take steps.length=steps.take 400:=by rw [List.take_length,List.take_of_length_le h4]
   have hmm:=HM.o;rw [ht] at hmm;have hoe:=OE.o;rw [ht] at hoe;replace H:=zHw M41 H zaF;have r1:=(H.o.widen (B:=fun k=>A k∨w.heap.size<=k) (fun k _ h=>(HE.o k h).2)).mc;rw [hmm] at r1;have r2:=(zdP hoe).widen (B:=fun k=>A k∨w.heap.size<=k) (fun k _ h=>.inr (by have q:=za4.o; omega));have hlen:(zf1 (zba l) (steps.take 400)).length=steps.length:=by have q:=hoe.1; simpa using q
   replace EW:=zwe M41 EW zbr;refine ⟨_,rfl,EW.o,(r1.and r2).imp fun w' h=>⟨_,_,(by rw [<- hmm]),h.1,?_⟩⟩;have h2:=h.2;unfold zbB;rw [hlen];exact h2

open Go.RowKit Go.Mk

def zmh:Prop:=∀ (v:Value) (l:List (List Cl)) (w:World) (A:Nat->Prop),Rd A (fun w=>zar 1 zdL w v l) w->zaQ Tryz.prog 6 #[v] w A (zok l)
def zpe:Prop:=∀ (l:List (List Cl)) (m:Mc) (k:Nat) (c u a p box plan cl:Value) (kind n:Int) (w:World) (A:Nat->Prop),RdM A w m c u a p box plan cl->Gd l m k->k<=500 ->
 zaQ Tryz.prog 10 #[.agg (zaW m c u a p box plan cl).toArray,.agg #[I kind,I n]] w A (fun r w'=>zgP zd1 (doM m kind n).1 (doM m kind n).2 r w')

def zoQ:Mc:=⟨⟨[],[],[],[]⟩,zck 0 [],false,0,0,[]⟩
def zmJ (l:List (List Cl)):Mc:=if zf8 l=0 then zba l else zoQ
theorem zqq {l:List (List Cl)} {r:Value} {A:Nat->Prop} {w:World} (h:Rd A (zok l r) w):∃ c u a p box plan cl,r=.tuple #[.agg (zaW (zmJ l) c u a p box plan cl).toArray,I (zf8 l)]/\RdM A w (zmJ l) c u a p box plan cl/\(zf8 l=0->zbD l):=by
 obtain ⟨cs,e1,h1⟩:=zqp h
 rcases h1 with ⟨h2,h3,h4⟩ | ⟨rfl,h2,h3⟩
 ·have e:zmJ l=zba l:=if_pos h2
  obtain ⟨c,u,a,p,box,plan,cl,rfl,hM⟩:=zcP h4
  rw [e]
  exact ⟨c,u,a,p,box,plan,cl,e1,hM,fun _=>h3⟩
 ·have e:zmJ l=zoQ:=if_neg h2
  rw [e]
  exact ⟨.slice none 0 0,.slice none 0 0,.slice none 0 0,.slice none 0 0,.slice none 0 0,.slice none 0 0,.slice none 0 0,e1,⟨Rd.all fun w=>zp3 w,Rd.all fun w=>zby w,Rd.all fun w=>zar.nil w,Rd.all fun w=>zar.nil w,Rd.all fun w=>zar.nil w,Rd.all fun w=>zby w,Rd.all fun w=>zar.nil w⟩,fun h=>absurd h h2⟩
theorem zlb {l:List (List Cl)} {r:Value} {A:Nat->Prop} {w:World} (h:Rd A (zok l r) w) {N:Mc} (hn:zmJ l=N):∃ c u a p box plan cl,r=.tuple #[.agg (zaW N c u a p box plan cl).toArray,I (zf8 l)]/\RdM A w N c u a p box plan cl/\(zf8 l=0->zbD l):=by
 subst hn
 exact zqq h
theorem zpg {l:List (List Cl)} {m:Mc} {k:Nat} (h:Gd l m k) (kind n:Int):Gd l (doM m kind n).1 (k+1):=by
 obtain ⟨h1,⟨ks,bz,h2⟩,h3⟩:=h
 exact ⟨h1,zo8 h1 h2 kind n,znv h3 kind n⟩
theorem Gd.fit {l:List (List Cl)} {m:Mc} {k:Nat} (h:Gd l m k) (hk:k<=1000):Fit m:=by
 obtain ⟨h1,⟨ks,bz,h2⟩,h3⟩:=h
 exact zpT h1 h2 h3 hk

end Go.Proofs.YtdmipnnfoolelaeGreat
