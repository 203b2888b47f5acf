/- zbb of the proof, merged: G2 S8. -/
import Derived.Test.YtdmipnnfoolelagGreatDoorKTA
import Derived.Test.YtdmipnnfoolelagGreatDoorKTO
import Derived.Test.YtdmipnnfoolelagGreatDoorKTN
set_option maxHeartbeats 4000000
set_option maxRecDepth 100000

namespace Go.Proofs.YtdmipnnfoolelagGreatDoor
open Go.RowKit Go.Mk

def zg1 (m:Mc):Prop:=ziO m.store/\zjV m.server/\m.clients.length<=1000/\∀ c ∈ m.clients,zlv c
theorem zby {g n cap b:Nat} (h:g < b):(Value.slice (some ⟨g,0,none⟩) n cap).ownBlock≠some b:=fun e=>by
 have q:g=b:=by simpa [Value.ownBlock] using e
 omega
def zl3 (k:Nat) (css:List (List Value)) (cls:List Cn) (w:World):Prop:=∀ (j:Nat) (c:List Value) (x:Cn),j < k->css[j]?=some c->cls[j]?=some x->zcG w c x
theorem znJ {k:Nat} {css:List (List Value)} {cls:List Cn} {c:List Value} {x:Cn} {A:Nat->Prop} {w:World} (h:Rd A (zl3 k css cls) w) (hx:cls[k]?=some x) (hk:k < css.length) (hc:Rd A (fun w=>zcG w c x) w):Rd A (zl3 (k+1) (css.set k c) cls) w:=(h.and hc).imp fun w ⟨h1,h2⟩ j c' x' hj hc' hx'=>by
 by_cases e:j=k
 ·subst e
  rw [List.getElem?_set_self hk] at hc'
  rw [hx] at hx'
  cases hc'
  cases hx'
  exact h2
 ·rw [List.getElem?_set_ne (fun q=>e q.symm)] at hc'
  exact h1 j c' x' (by omega) hc' hx'
theorem zmV {css:List (List Value)} {cls:List Cn} {A:Nat->Prop} {w:World} (h:Rd A (zl3 cls.length css cls) w) (hl:css.length=cls.length) (hz:∀ c ∈ css,c.length=6):Rd A (fun w=>zc8 6 zcG w css cls) w:=h.imp fun _ h=>⟨hl,fun j c x hc hx=>⟨hz c (List.mem_of_getElem? hc),h j c x (List.getElem?_eq_some_iff.1 hx).1 hc hx⟩⟩

structure OwnP (m:Mc) (c u a p box plan:Value) (css:List (List Value)) (w:World):Prop where
 st:zc7 w [c,u,a,p] m.store
 box:zaj 1 zcI w box m.server.box
 plan:zar w plan m.server.plan
 each:zc8 6 zcG w css m.clients
theorem zd6 {B:Nat->Prop} {w:World} {m:Mc} {c u a p box plan:Value} {g n:Nat} {css:List (List Value)} (h:Rd B (OwnP m c u a p box plan css) w) (row:w.ownsRow g 49 6 (.slice (some ⟨g,0,none⟩) n n) n css.flatten) (hn:m.clients.length=n):RdM (fun k=>B k∨k=g) w m c u a p box plan (.slice (some ⟨g,0,none⟩) n n):=by
 have h:=h.widen (B:=fun k=>B k∨k=g) fun k _ hk=>.inl hk
 have q:=h.imp fun _ h=>zcQ.1 h.st
 have hr:Rd (fun k=>B k∨k=g) (fun w=>Row w 6 (.slice (some ⟨g,0,none⟩) n n) n css.flatten) w:=zct row fun k hk=>.inr (by simpa [Value.ownBlock] using hk.symm)
 subst hn
 exact ⟨q.left,q.right.left,q.right.right.left,q.right.right.right,h.imp fun _ h=>h.box,h.imp fun _ h=>h.plan,(h.and hr).imp fun _ h=>⟨css,h.1.each,h.2⟩⟩
theorem zdO {B B0:Nat->Prop} {g s k:Nat} (h:B0 k∨k=g) (hk:B0 k->B k∨s<=k):(B k∨k=g)∨s<=k:=by
 rcases h with h | h
 ·exact (hk h).imp_left .inl
 ·exact .inl (.inr h)
structure OwnMc (s:Nat) (B:Nat->Prop) (w:World) (m:Mc) (c u a p box plan:Value) (g:Nat) (css:List (List Value)):Prop where
 lo:∀ k,B k->s<=k
 at_:s<=g
 off:¬ B g
 rd:Rd B (OwnP m c u a p box plan css) w
 row:w.ownsRow g 49 6 (.slice (some ⟨g,0,none⟩) m.clients.length m.clients.length) m.clients.length css.flatten
theorem OwnMc.mc {s:Nat} {B:Nat->Prop} {w:World} {m:Mc} {c u a p box plan:Value} {g:Nat} {css:List (List Value)} (h:OwnMc s B w m c u a p box plan g css):RdM (fun k=>s<=k) w m c u a p box plan (.slice (some ⟨g,0,none⟩) m.clients.length m.clients.length):=(zd6 h.rd h.row rfl).widen fun k _ hk=>by
 rcases hk with hk | rfl
 ·exact h.lo k hk
 ·exact h.at_

theorem zjC (m:Mc) (c u a p box plan cl:Value) (w:World) (A:Nat->Prop) (h:RdM A w m c u a p box plan cl) (hs:zg1 m) :
  zaw Tryz.prog 24 #[.agg (zaM m c u a p box plan cl).toArray] w (fun r w'=>∃ c u a p box plan g css B,r=.agg (zaM m c u a p box plan (.slice (some ⟨g,0,none⟩) m.clients.length m.clients.length)).toArray/\OwnMc w.heap.size B w' m c u a p box plan g css):=by
 unfold zaw;obtain ⟨ca,cc,ua,uc,aa,ac,pa,pc,xa,xc,la,lc,ka,kc,rfl,rfl,rfl,rfl,rfl,rfl,rfl⟩:=h.slices;have HS:=zhd hs;obtain ⟨css0,heach,hrow0⟩:=h.clients.o;have HE:=zhd heach;have HR0:=zhd hrow0;have H1:=zhd h.cells.o;have H2:=zhd h.undo.o;have H3:=zhd h.answers.o;have H4:=zhd h.past.o;have H5:=zhd h.box.o;have H6:=zhd h.plan.o;clear hs h heach hrow0;have EW:=zhd (Ext.refl w);obtain ⟨B,hB⟩:=zhZ (fun _=>False) w.heap.size 2;have HK:=zhd hB;clear hB;go_enter Tryz.func24,Tryz.ntmps24
 go_wp2_with (with_reducible refine zT ?_)
 refine zam rfl 43 (.tmp 0) rfl #[.slice ca m.store.cells.length cc,.slice ua m.store.undo.length uc,.slice aa m.store.answers.length ac,.slice pa m.store.past.length pc,I m.server.gen,.slice xa m.server.box.length xc,.bool m.server.busy,I m.server.now.client,I m.server.now.token,I m.server.now.call.kind,I m.server.now.call.name,I m.server.now.call.other,I m.server.now.call.n,.slice la m.server.plan.length lc,I m.server.says.err,I m.server.says.n,.bool m.up,I m.pause,I m.falls,.slice ka m.clients.length kc] rfl (fun b0 w1_ M1=>?_);have zab:=zmb M1;go_wp2_with (with_reducible refine zT ?_)
 refine zac rfl 43 zM (by kernel_rfl) (fun b1 w2_ M2=>?_);have zaQ:=zld zab M2;have zad:=zmb M2;have zbD:=zA0 M1;have zbc:=znb HK zbD (by decide);have zcO:=zob zbD;have zbz:=zA1 zbD M1 M2;have zaB:=znb HK zbz (by decide);have za9:=zob zbz;go_wp2_with (with_reducible refine zT ?_)
 replace zab:=zmo M2 zab;refine zcq rfl 30 (.tmp 5) rfl b0 0 rfl zab [.slice ca m.store.cells.length cc,.slice ua m.store.undo.length uc,.slice aa m.store.answers.length ac,.slice pa m.store.past.length pc] rfl ze6 zh4 (fun v6 H_v6=>?_);go_wp2_with fail
 rw [H_v6.o];clear H_v6;have hin:∀ k,w2_.heap.size<=k->B k:=fun k h=>HK.o.2.1 k (by have q:=(zlt zad); have q2:=zbz.o; omega);replace EW:=zet (zet EW M1) M2;refine (zhn _ _ _ _ m.store w2_ (zcQ.2 ⟨H1.o.ext EW.o,H2.o.ext EW.o,H3.o.ext zfW EW.o,H4.o.ext zoc EW.o⟩) HS.o.1).to fun r wa ea hr=>?_;obtain ⟨c',u',a',p',rfl,ho⟩:=hr;obtain ⟨ca1,cc1,rfl⟩:=zaD ho.cells;obtain ⟨ua1,uc1,rfl⟩:=zaD ho.undo
 obtain ⟨aa1,ac1,rfl⟩:=zaD ho.answers;obtain ⟨pa1,pc1,rfl⟩:=zaD ho.past;have R1:=zhd ((zeN ho.cells).widen (B:=B) fun k _ h=>hin k (by omega));have R2:=zhd ((zeg ho.undo).widen (B:=B) fun k _ h=>hin k (by omega));have R3:=zhd ((zgo ho.answers).widen (B:=B) fun k _ h=>hin k (by omega));have R4:=zhd ((ziW ho.past).widen (B:=B) fun k _ h=>hin k (by omega));clear ho hin;replace zab:=zbx zab ea;replace zad:=zbx zad ea;replace EW:=zhd (EW.o.trans ea);clear ea;go_wp2_with (with_reducible refine zT ?_)
 refine zaq rfl 30 (.tmp 8) (.tmp 7) rfl b0 0 rfl [.slice ca1 m.store.cells.length cc1,.slice ua1 m.store.undo.length uc1,.slice aa1 m.store.answers.length ac1,.slice pa1 m.store.past.length pc1] (rfl) zab rfl zh4 rfl [.slice ca1 m.store.cells.length cc1,.slice ua1 m.store.undo.length uc1,.slice aa1 m.store.answers.length ac1,.slice pa1 m.store.past.length pc1,I m.server.gen,.slice xa m.server.box.length xc,.bool m.server.busy,I m.server.now.client,I m.server.now.token,I m.server.now.call.kind,I m.server.now.call.name,I m.server.now.call.other,I m.server.now.call.n,.slice la m.server.plan.length lc,I m.server.says.err,I m.server.says.n,.bool m.up,I m.pause,I m.falls,.slice ka m.clients.length kc] rfl (fun w3_ M3=>?_);replace zab:=zwb M3;go_wp2_with (with_reducible refine zT ?_)
 refine zcq rfl 40 (.tmp 9) rfl b0 4 rfl zab [I m.server.gen,.slice xa m.server.box.length xc,.bool m.server.busy,I m.server.now.client,I m.server.now.token,I m.server.now.call.kind,I m.server.now.call.name,I m.server.now.call.other,I m.server.now.call.n,.slice la m.server.plan.length lc,I m.server.says.err,I m.server.says.n] rfl zda zdp (fun v10 H_v10=>?_);go_wp2_with fail
 rw [H_v10.o];clear H_v10;replace zad:=zwg M3 zad zaQ;have hin:∀ k,w3_.heap.size<=k->B k:=fun k h=>HK.o.2.1 k (by have q:=(zlt zad); have q2:=zbz.o; omega);replace EW:=zwe M3 EW zcO;refine (zg9 m.server _ _ w3_ (H5.o.ext zdK EW.o) (H6.o.ext EW.o) HS.o.2.1).to fun r wb eb hr=>?_;obtain ⟨box',plan',rfl,ho,yg,rfl⟩:=hr;obtain ⟨la1,lc1,rfl⟩:=zaD ho.plan;obtain ⟨q5,q6⟩:=ho.rd (B:=B) (fun k h _=>hin k h);have R5:=zhd q5;have R6:=zhd q6;clear ho hin q5 q6;replace R1:=zrx (zwr M3 R1 zbc) eb;replace R2:=zrx (zwr M3 R2 zbc) eb;replace R3:=zrx (zwr M3 R3 zbc) eb;replace R4:=zrx (zwr M3 R4 zbc) eb;replace zab:=zbx zab eb;replace zad:=zbx zad eb;replace EW:=zhd (EW.o.trans eb);clear eb;go_wp2_with (with_reducible refine zT ?_)
 refine zaq rfl 40 (.tmp 12) (.tmp 11) rfl b0 4 rfl [I m.server.gen,.slice (some ⟨yg,0,none⟩) m.server.box.length m.server.box.length,.bool m.server.busy,I m.server.now.client,I m.server.now.token,I m.server.now.call.kind,I m.server.now.call.name,I m.server.now.call.other,I m.server.now.call.n,.slice la1 m.server.plan.length lc1,I m.server.says.err,I m.server.says.n] (rfl) zab rfl zdp rfl [.slice ca1 m.store.cells.length cc1,.slice ua1 m.store.undo.length uc1,.slice aa1 m.store.answers.length ac1,.slice pa1 m.store.past.length pc1,I m.server.gen,.slice (some ⟨yg,0,none⟩) m.server.box.length m.server.box.length,.bool m.server.busy,I m.server.now.client,I m.server.now.token,I m.server.now.call.kind,I m.server.now.call.name,I m.server.now.call.other,I m.server.now.call.n,.slice la1 m.server.plan.length lc1,I m.server.says.err,I m.server.says.n,.bool m.up,I m.pause,I m.falls,.slice ka m.clients.length kc] rfl (fun w4_ M4=>?_);replace zab:=zwb M4;have c19:=zae (i:=19) zab.o rfl;go_wp2_with fail
 clear c19;replace zad:=zwg M4 zad zaQ;have hin:∀ k,w4_.heap.size<=k->B k:=fun k h=>HK.o.2.1 k (by have q:=(zlt zad); have q2:=zbz.o; omega);have hones:=HE.o.ones zu2;replace EW:=zwe M4 EW zcO;refine (zlN _ m.clients.length css0.flatten w4_ (HR0.o.ext EW.o) hones (by have:=HS.o.2.2.1; omega)).to fun r wc ec hr=>?_;obtain ⟨ho,rfl⟩:=hr;obtain ⟨g,hg⟩:∃ g,w4_.heap.size=g:=⟨_,rfl⟩;have HG:=zhd hg;rw [hg] at ho;clear hones;have zuj:Hid (b0 < g):=by unfold Hid; have q:=(zlt zab); omega
 have zud:Hid (b1 < g):=by unfold Hid; have q:=(zlt zad); omega
 have O_g:Hid (w.heap.size<=g):=by unfold Hid; have q:=EW.o.size; omega
 obtain ⟨B1,HB1⟩:=zEx B g;have hnar:∀ k,k < w4_.heap.size->B k->B1 k:=fun k hk h=>(HB1.o k).2 ⟨h,by omega⟩;replace R1:=zhd ((zwr M4 R1 zbc).o.widen (B:=B1) hnar);replace R2:=zhd ((zwr M4 R2 zbc).o.widen (B:=B1) hnar);replace R3:=zhd ((zwr M4 R3 zbc).o.widen (B:=B1) hnar);replace R4:=zhd ((zwr M4 R4 zbc).o.widen (B:=B1) hnar);replace R5:=zhd ((zwr M4 R5 zbc).o.widen (B:=B1) hnar);replace R6:=zhd ((zwr M4 R6 zbc).o.widen (B:=B1) hnar);replace zbc:Hid (¬ B1 b0):=fun h=>zbc.o ((HB1.o _).1 h).1;replace zaB:Hid (¬ B1 b1):=fun h=>zaB.o ((HB1.o _).1 h).1;have N_g:=zNn HB1;have zhS:=zIn HB1;clear hnar;have zvJ:Hid (¬ B1 g):=N_g.o;have HG2:Hid (∀ k,g<=k->B k):=fun k h=>hin k (by omega);have HNEW:Hid (∀ k,g < k->B1 k):=fun k h=>(HB1.o k).2 ⟨hin k (by omega),by omega⟩;clear hin;rw [hg];have HO:=zhd ho;replace zab:=zbx zab ec;replace zad:=zbx zad ec;replace R1:=zrx R1 ec;replace R2:=zrx R2 ec;replace R3:=zrx R3 ec;replace R4:=zrx R4 ec;replace R5:=zrx R5 ec;replace R6:=zrx R6 ec;replace EW:=zhd (EW.o.trans ec);clear ec ho hg HG;go_wp2_with (with_reducible refine zT ?_)
 refine zaq rfl 41 (.tmp 16) (.tmp 15) rfl b0 19 rfl [.slice (some ⟨g,0,none⟩) m.clients.length m.clients.length] (rfl) zab rfl zuY rfl [.slice ca1 m.store.cells.length cc1,.slice ua1 m.store.undo.length uc1,.slice aa1 m.store.answers.length ac1,.slice pa1 m.store.past.length pc1,I m.server.gen,.slice (some ⟨yg,0,none⟩) m.server.box.length m.server.box.length,.bool m.server.busy,I m.server.now.client,I m.server.now.token,I m.server.now.call.kind,I m.server.now.call.name,I m.server.now.call.other,I m.server.now.call.n,.slice la1 m.server.plan.length lc1,I m.server.says.err,I m.server.says.n,.bool m.up,I m.pause,I m.falls,.slice (some ⟨g,0,none⟩) m.clients.length m.clients.length] rfl (fun w5_ M5=>?_);replace zab:=zwb M5;have c19:=zae (i:=19) zab.o rfl;go_wp2_with fail
 clear c19;replace R1:=zwr M5 R1 zbc;replace R2:=zwr M5 R2 zbc;replace R3:=zwr M5 R3 zbc;replace R4:=zwr M5 R4 zbc;replace R5:=zwr M5 R5 zbc;replace R6:=zwr M5 R6 zbc;have RS:Hid (Rd B1 (fun w=>(zc2 w (.slice ca1 m.store.cells.length cc1) m.store.cells/\zar w (.slice ua1 m.store.undo.length uc1) m.store.undo/\zaj 4 zgO w (.slice aa1 m.store.answers.length ac1) m.store.answers/\zaj 6 zhJ w (.slice pa1 m.store.past.length pc1) m.store.past)/\zaj 1 zcI w (.slice (some ⟨yg,0,none⟩) m.server.box.length m.server.box.length) m.server.box/\zar w (.slice la1 m.server.plan.length lc1) m.server.plan) w5_):=(R1.o.and (R2.o.and (R3.o.and R4.o))).and (R5.o.and R6.o);clear R1 R2 R3 R4 R5 R6;replace zad:=zwg M5 zad zaQ;replace HO:=zhd (M5.o.owns HO.o (zgg zuj.o));replace EW:=zwe M5 EW zcO;go_loopw [20] (fun i wr=>∃ (k:Nat) (css:List (List Value)),k<=m.clients.length/\i=I k/\wr.ownsRow g 49 6 (.slice (some ⟨g,0,none⟩) m.clients.length m.clients.length) m.clients.length css.flatten/\css.length=m.clients.length/\(∀ c ∈ css,c.length=6)/\(∀ j,k<=j->css[j]?=css0[j]?)/\Rd B1 (zl3 k css m.clients) wr/\Rd B1 (fun w=>(zc2 w (.slice ca1 m.store.cells.length cc1) m.store.cells/\zar w (.slice ua1 m.store.undo.length uc1) m.store.undo/\zaj 4 zgO w (.slice aa1 m.store.answers.length ac1) m.store.answers/\zaj 6 zhJ w (.slice pa1 m.store.past.length pc1) m.store.past)/\zaj 1 zcI w (.slice (some ⟨yg,0,none⟩) m.server.box.length m.server.box.length) m.server.box/\zar w (.slice la1 m.server.plan.length lc1) m.server.plan) wr/\wr.heap[b0]?=some (.cells #[.slice ca1 m.store.cells.length cc1,.slice ua1 m.store.undo.length uc1,.slice aa1 m.store.answers.length ac1,.slice pa1 m.store.past.length pc1,I m.server.gen,.slice (some ⟨yg,0,none⟩) m.server.box.length m.server.box.length,.bool m.server.busy,I m.server.now.client,I m.server.now.token,I m.server.now.call.kind,I m.server.now.call.name,I m.server.now.call.other,I m.server.now.call.n,.slice la1 m.server.plan.length lc1,I m.server.says.err,I m.server.says.n,.bool m.up,I m.pause,I m.falls,.slice (some ⟨g,0,none⟩) m.clients.length m.clients.length] 43 (0,0))/\wr.heap[b1]?=some (.cells zM 43 (0,0))/\Ext w wr) (fun i _=>m.clients.length - (intOf i).toNat)
 case atStart=>exact ⟨0,css0,Nat.zero_le _,rfl,HO.o,HE.o.1,HE.o.sizes,fun _ _=>rfl,Rd.all fun w j c x hj=>absurd hj (Nat.not_lt_zero _),RS.o,zab.o,zad.o,EW.o⟩
 case round =>
  obtain ⟨k,css,hk,rfl,ho,hlen,hsz,hold,hdone,hrs,hb0,hb1,hex⟩:=hrel;clear zab zad RS EW HO;have HO:=zhd ho;have HLEN:=zhd hlen;have HSZ:=zhd hsz;have HOLD:=zhd hold;have RD:=zhd hdone;have RS:=zhd hrs;have zab:=zhd hb0;have zad:=zhd hb1;have EW:=zhd hex;clear ho hlen hsz hold hdone hrs hb0 hb1 hex;by_cases hlt:k < m.clients.length
  ·obtain ⟨c0,x,hc0,hx,_⟩:=zeC HE.o hlt;obtain ⟨kcalls,kbox,kgot,rfl,x1,x2,x3⟩:=(HE.o.2 k _ _ hc0 hx).2;have HX:=zhd hx;have hck:css[k]?=_:=(HOLD.o k (Nat.le_refl _)).trans hc0;have hrg:=zcY (by decide) (Row.of_owns HO.o) HSZ.o hck;rw [Nat.zero_add] at hrg;have HRG:=zhd hrg;have HSC:=zhd (HS.o.2.2.2 x (List.mem_of_getElem? hx));obtain ⟨ka1,kc1,rfl⟩:=zaf x1;obtain ⟨ka2,kc2,rfl⟩:=zaf x2;obtain ⟨ka3,kc3,rfl⟩:=zaf x3;have X1:=zhd x1;have X2:=zhd x2;have X3:=zhd x3;have hli:(k:Int) < (m.clients.length:Int):=by omega
   have hl0:(0:Int)<=(k:Int):=by omega
   have HLT:=zhd hlt;clear hx hc0 hck hrg x1 x2 x3 hlt hk;have HC18:Hid True:=trivial;go_wp2_with (with_reducible refine zT ?_)
   unfold Hid;clear hli hl0;refine zfG rfl 49 (.tmp 23) rfl g (k * 6) rfl [.slice ka1 x.calls.length kc1,I x.at_,.bool x.sent,I x.gen,.slice ka2 x.box.length kc2,.slice ka3 x.got.length kc3] HRG.o zcK zcm (fun v24 H_v24=>?_);go_wp2_with (with_reducible refine zT ?_)
   have SZ0:Hid (g < wr.heap.size):=by unfold Hid; exact (HO.o.lt g rfl).2
   refine zac rfl 49 zC (by kernel_rfl) (fun b4 w101_ M101=>?_);have zdc:=zld zab M101;have zca:=zld zad M101;obtain ⟨B11,HB11⟩:=zEx B1 b4;have zdb:=zNn HB11;have zsf:=zIn HB11;have zew:=zOn M101 EW;have zaE:=zmb M101;have zvE:Hid (g < b4):=by unfold Hid; have q:=SZ0.o; have q2:=M101.o.at_; omega
   clear SZ0;go_wp2_with (with_reducible refine zT ?_)
   refine zaa rfl 49 (.tmp 4) (.tmp 24) rfl b4 rfl _ (zcv H_v24) zaE rfl zcm rfl (fun w102_ M102=>?_);replace zaE:=zwb M102;go_wp2_with fail
   have SZ7:Hid (g < w102_.heap.size):=by unfold Hid; have q:=(zlt zaE); have q2:=zvE.o; omega
   replace zab:=zwl M102 (zmo M101 zab) zdc;have c19:=zae (i:=19) zab.o rfl;replace EW:=zwe M102 (zet EW M101) zew;have HXE:Hid (Ext w w102_):=EW.o;replace RD:=zwr M102 (zme M101 (zmd HB11 M101 RD)) zdb;replace RS:=zwr M102 (zme M101 (zmd HB11 M101 RS)) zdb;replace zad:=zwl M102 (zmo M101 zad) zca;replace HO:=zhd (M102.o.owns (zhd (zai HO.o M101.o.ext)).o (zby zvE.o));refine zap 6 [none,none,none,none,some (.inr (fun (r:Value) (wx:World)=>Rd (fun k=>w102_.heap.size<=k) (Agg zcG x r) wx)),none] (by kernel_rfl) (by kernel_rfl) ?_ ?_
   ·exact ⟨trivial,trivial,trivial,trivial,fun _ _ _ he h=>h.ext he,trivial,trivial⟩
   (refine zat (fun K hK=>?_); go_simp; first | refine hK _ ?_ | refine ⟨(fun h=>by cases h),hK _ ?_⟩; clear hK K)
   refine zaK (.slice (some ⟨g,0,none⟩) m.clients.length m.clients.length) rfl (fun w' hw'=>by have:=hw'.cell c19; go_simp) ?_;refine zan fun K h=>?_; go_simp; refine h _ ?_; clear h K;(refine zat (fun K hK=>?_); go_simp; first | refine hK _ ?_ | refine ⟨(fun h=>by cases h),hK _ ?_⟩; clear hK K)
   refine zaK (.agg #[.slice ka1 x.calls.length kc1,I x.at_,.bool x.sent,I x.gen,.slice ka2 x.box.length kc2,.slice ka3 x.got.length kc3]) rfl (fun w' hw'=>zcz 49 (.tmp 4) rfl b4 0 rfl (zd4 zaE.o hw') [.slice ka1 x.calls.length kc1,I x.at_,.bool x.sent,I x.gen,.slice ka2 x.box.length kc2,.slice ka3 x.got.length kc3] rfl zcK (by kernel_rfl)) ?_;refine zan fun K h=>?_; go_simp; refine h _ ?_; clear h K;refine zbq _ rfl (fun w' hw' hk=>?_) (fun v29=>?_)
   ·have hg:zaw Tryz.prog 45 #[.agg #[.slice ka1 x.calls.length kc1,I x.at_,.bool x.sent,I x.gen,.slice ka2 x.box.length kc2,.slice ka3 x.got.length kc3]] w' (fun (r:Value) (wx:World)=>Rd (fun k=>w102_.heap.size<=k) (Agg zcG x r) wx):=Calls.mono (zfH x _ _ _ w' (X1.o.ext zbl (HXE.o.trans hw')) (X2.o.ext zdK (HXE.o.trans hw')) (X3.o.ext zf9 (HXE.o.trans hw')) HSC.o) fun e wx h=>(by obtain ⟨r,he,hx,ht⟩:=h; exact ⟨r,he,hx,ht.widen fun k _ h=>by rcases h with h | h; exact h.elim; exact Nat.le_trans hw'.size h⟩);clear hk;unfold za0;go_simp
    exact ⟨Ext.refl _,hg⟩
   refine zan fun K h=>?_; go_simp; refine h _ ?_; clear h K;have hli:(k:Int) < (m.clients.length:Int):=by have:=HLT.o; omega
   have hl0:(0:Int)<=(k:Int):=by omega
   (refine zat (fun K hK=>?_); go_simp; first | refine hK _ ?_ | refine ⟨(fun h=>by cases h),hK _ ?_⟩; clear hK K)
   clear hli hl0;refine za5 ?_;intro w8 e8 hF;have h29:(fun (r:Value) (wx:World)=>Rd (fun k=>w102_.heap.size<=k) (Agg zcG x r) wx) v29 w8:=hF 29;clear hF c19;obtain ⟨cs,rfl,hcs⟩:=zcb h29;obtain ⟨n1,n2,n3,rfl,r1,r2,r3⟩:=zd2 hcs;obtain ⟨na1,nc1,rfl⟩:=zaf r1.o;obtain ⟨na2,nc2,rfl⟩:=zaf r2.o;obtain ⟨na3,nc3,rfl⟩:=zaf r3.o;replace zaE:=zbx zaE e8;have RN:=zhd (hcs.widen (B:=B1) fun k _ h=>HNEW.o k (by have q:=(Array.getElem?_eq_some_iff.1 (zaE.o)).1; have q2:=zvE.o; have q3:=SZ7.o; omega));replace RD:=zrx RD e8;replace RD:=zhd (RD.o.widen (B:=B1) fun k _ h=>zsf.o k h);replace RS:=zrx RS e8;replace RS:=zhd (RS.o.widen (B:=B1) fun k _ h=>zsf.o k h);replace zab:=zbx zab e8;replace zad:=zbx zad e8;replace HO:=zhd (zai HO.o e8);replace EW:=zhd (EW.o.trans e8);clear h29 hcs r1 r2 r3 e8;obtain ⟨cur,hgb,hbb,hcsz,htk,hncap,hmax⟩:=zge HO.o;have hnl:=HLT.o;refine zfD ?_;unfold Hid;refine zce rfl 49 (.tmp 30) (.tmp 29) rfl g (k * 6) rfl [.slice na1 x.calls.length nc1,I x.at_,.bool x.sent,I x.gen,.slice na2 x.box.length nc2,.slice na3 x.got.length nc3] rfl hgb (by rw [hcsz]; simp only [List.length_cons,List.length_nil]; omega) (by kernel_rfl) (zbR rfl) _ rfl (fun w103_ M103=>?_);have hO2:=zeE hbb hcsz htk hncap hmax M103.o (by simp only [List.length_cons,List.length_nil]; omega);rw [<- zfM (size:=6) (by decide) HSZ.o (by rw [HLEN.o]; exact hnl) rfl] at hO2;replace HO:=zhd hO2;clear hO2 hgb hbb hcsz htk hncap hmax;clear zaE;have hkb:k < 1000:=by have q:=HS.o.2.2.1; have q2:=HLT.o; omega
   go_wp2
   replace zab:=zhd (M103.o.old zab.o (Nat.ne_of_lt zuj.o));replace zad:=zhd (M103.o.old zad.o (Nat.ne_of_lt zud.o));replace RD:=zhd (M103.o.rd RD.o zvJ.o);replace RS:=zhd (M103.o.rd RS.o zvJ.o);replace RN:=zhd (M103.o.rd RN.o zvJ.o);replace EW:=zhd (M103.o.ext EW.o O_g.o);go_roundw
   case rel =>
    refine ⟨k+1,css.set k [.slice na1 x.calls.length nc1,I x.at_,.bool x.sent,I x.gen,.slice na2 x.box.length nc2,.slice na3 x.got.length nc3],by have:=HLT.o; omega,by go_num,HO.o,by rw [List.length_set]; exact HLEN.o,fun c hc=>?_,fun j hj=>?_,znJ RD.o HX.o (by rw [HLEN.o]; exact HLT.o) RN.o,RS.o,zab.o,zad.o,EW.o⟩
    ·rcases List.mem_or_eq_of_mem_set hc with hc | rfl
     ·exact HSZ.o c hc
     ·rfl
    ·rw [List.getElem?_set_ne (by omega)];exact HOLD.o j (by omega)
   case measure=>have:=HLT.o; simp [intOf]; omega
  ·have hkn:k=m.clients.length:=by omega
   subst hkn;clear hlt hk;go_wp2_with (with_reducible refine zT ?_)
   refine zah rfl 43 (.tmp 1) rfl b0 rfl zab za2 zaT (fun v32 H_v32=>?_);go_wp2_with (with_reducible refine zT ?_)
   refine zaa rfl 43 (.tmp 2) (.tmp 32) rfl b1 rfl _ (zcv H_v32) zad rfl zaT rfl (fun w201_ M201=>?_);replace zad:=zwb M201;go_wp2
   have z0:=zau (P:=Tryz.prog) 43 zad.o za2 (by kernel_rfl);refine bodyPost_ret (by simp [results,Tryz.results24,asAddr,z0,Act.put]; rfl) rfl ?_;replace RD:=zwr M201 RD zaB;replace RS:=zwr M201 RS zaB;replace HO:=zhd (M201.o.owns HO.o (zgg zud.o));replace EW:=zwe M201 EW za9;exact ⟨_,rfl,EW.o,_,_,_,_,_,_,g,css,B1,rfl,fun k h=>(HK.o.2.2.2 k (zhS.o k h)).elim False.elim id,O_g.o,zvJ.o,(RS.o.and (zmV RD.o HLEN.o HSZ.o)).imp fun _ h=>⟨zcQ.2 h.1.1,h.1.2.1,h.1.2.2,h.2⟩,HO.o⟩

theorem zcp (m:Mc) (c u a p box plan cl:Value) (w:World) (A:Nat->Prop) (h:RdM A w m c u a p box plan cl) (hs:zg1 m) :
  za3 Tryz.prog 24 #[.agg (zaM m c u a p box plan cl).toArray] w (fun _=>False) (fun r w'=>Agg zdi m r w') :=
 (zjC m c u a p box plan cl w A h hs).to fun r w' he h=>by
  obtain ⟨_,_,_,_,_,_,_,_,_,rfl,ho⟩:=h
  exact ⟨_,rfl,he,(zcM ho.mc.mc).widen fun _ _ h=>.inr h⟩

open Go.RowKit Go.Mk

def zjL:List An->Int->Nat
 | [],_=>0
 | x::l,n=>if x.client=n then 0 else zjL l n+1
def zdt (l:List An) (n:Int):Int:=if zjL l n < l.length then (zjL l n:Int) else -1

theorem zq1:∀ {l:List An} {k:Nat} {x:An} {n:Int},(∀ (j:Nat) (y:An),j < k->l[j]?=some y->y.client≠n)->l[k]?=some x->x.client=n->zjL l n=k
 | [],k,x,n,_,hx,_=>by simp at hx
 | y::l,0,x,n,_,hx,hc=>by
  simp at hx
  subst hx
  exact if_pos hc
 | y::l,k+1,x,n,h,hx,hc=>by
  have h0:¬ y.client=n:=h 0 y (by omega) rfl
  have:=zq1 (l:=l) (k:=k) (x:=x) (n:=n) (fun j z hj hz=>h (j+1) z (by omega) (by simpa using hz)) (by simpa using hx) hc
  show (if y.client=n then 0 else zjL l n+1)=_
  rw [if_neg h0,this]
theorem zo3:∀ {l:List An} {n:Int},(∀ x ∈ l,x.client≠n)->zjL l n=l.length
 | [],_,_=>rfl
 | y::l,n,h=>by
  show (if y.client=n then 0 else zjL l n+1)=_
  rw [if_neg (h y (by simp)),zo3 (fun x hx=>h x (by simp [hx]))]
  rfl
theorem zkz {l:List An} {k:Nat} {x:An} {n:Int} (h:∀ (j:Nat) (y:An),j < k->l[j]?=some y->y.client≠n) (hx:l[k]?=some x) (hc:x.client=n):zdt l n=(k:Int):=by
 unfold zdt
 rw [zq1 h hx hc,if_pos (List.getElem?_eq_some_iff.1 hx).1]
theorem zn3 {l:List An} {n:Int} (h:∀ (j:Nat) (y:An),j < l.length->l[j]?=some y->y.client≠n):zdt l n=-1:=by
 unfold zdt
 rw [zo3 (fun x hx=>by obtain ⟨j,hj⟩:=List.mem_iff_getElem?.1 hx; exact h j x (List.getElem?_eq_some_iff.1 hj).1 hj),if_neg (Nat.lt_irrefl _)]

theorem zfP:∀ (l:List An) (n:Int),(zdt l n=-1/\lastAn l n=(zeroAn,false)/\∀ a:An,a.client=n->zbW l a=l++[a])∨∃ (k:Nat) (x:An),zdt l n=(k:Int)/\l[k]?=some x/\lastAn l n=(x,true)/\∀ a:An,a.client=n->zbW l a=l.set k a
 | [],n=>.inl ⟨rfl,rfl,fun _ _=>rfl⟩
 | y::l,n=>by
  by_cases hy:y.client=n
  ·right
   refine ⟨0,y,zkz (fun j z hj=>by omega) rfl hy,rfl,if_pos hy,fun a ha=>?_⟩
   show (if y.client=a.client then a::l else y::zbW l a)=_
   rw [if_pos (hy.trans ha.symm)]
   rfl
  ·have hl:lastAn (y::l) n=lastAn l n:=if_neg hy
   have hp:∀ a:An,a.client=n->zbW (y::l) a=y::zbW l a:=fun a ha=>if_neg (fun e=>hy (e.trans ha))
   have ha:zjL (y::l) n=zjL l n+1:=if_neg hy
   rcases zfP l n with ⟨h1,h2,h3⟩ | ⟨k,x,h1,h2,h3,h4⟩
   ·left
    refine ⟨?_,by rw [hl,h2],fun a e=>by rw [hp a e,h3 a e]; rfl⟩
    unfold zdt at h1 ⊢
    rw [ha]
    by_cases hlt:zjL l n < l.length
    ·rw [if_pos hlt] at h1; omega
    ·rw [if_neg (by simp; omega)]
   ·right
    refine ⟨k+1,x,?_,by simpa using h2,by rw [hl,h3],fun a e=>by rw [hp a e,h4 a e]; rfl⟩
    unfold zdt at h1 ⊢
    rw [ha]
    by_cases hlt:zjL l n < l.length
    ·rw [if_pos hlt] at h1; rw [if_pos (by simp; omega)]; omega
    ·rw [if_neg hlt] at h1; omega

theorem zmn (xc xt xe xn n:Int) (b:Nat) (w:World) (hb:w.cell? ⟨b,0,none⟩=some (I n)) :
  Calls Tryz.prog 155 #[.agg #[I xc,I xt,I xe,I xn],.pointer (some ⟨b,0,none⟩)] w fun e w'=>e=.returned (.bool (xc == n))/\Ext w w':=by
 have e0:Ext w (w.alloc (.cells #[I xc,I xt,I xe,I xn] 118)):=(Ext.refl w).alloc _;have hb2:=e0.cell hb;clear hb;go_enter Tryz.func155,Tryz.ntmps155
 go_wp2
 go_ret
 exact ⟨rfl,e0⟩

theorem zlJ:∀ (args:Array Value) (w:World),(callFunc 155 args).run Tryz.prog w=.ok (.enter 155 args) w:=fun _ _=>by kernel_rfl

theorem zj5 (a:Value) (l:List An) (n:Int) (b:Nat) (w:World) (ha:zaj 4 zgO w a l) (hb:w.cell? ⟨b,0,none⟩=some (I n)) :
  Calls Tryz.prog 154 #[a,.func (.func 155) #[] #[.pointer (some ⟨b,0,none⟩)]] w fun e w'=>e=.returned (I (zdt l n))/\Ext w w':=by
 obtain ⟨aa,ac,rfl,g1,g2,g3⟩:=zng ha;unfold maxLen at g2;clear ha;obtain ⟨R,hR⟩:∃ R,zdt l n=R:=⟨_,rfl⟩;rw [hR];have HR:=zhd hR;clear hR;have HG:=zhd g3;clear g3;have hE:=zlJ;go_enter Tryz.func154,Tryz.ntmps154
 go_wp2
 go_loopw [8] (fun i wr=>∃ k:Nat,k<=l.length/\i=I k/\(∀ (j:Nat) (y:An),j < k->l[j]?=some y->y.client≠n)/\Ext w wr) (fun i _=>l.length - (intOf i).toNat)
 case atStart=>exact ⟨0,by omega,rfl,fun j y hj=>by omega,Ext.refl _⟩
 case round =>
  obtain ⟨k,hk,rfl,hne,he⟩:=hrel;have HNE:=zhd hne;clear hne;by_cases hlt:k < l.length
  ·obtain ⟨x,hx⟩:∃ x,l[k]?=some x:=⟨l[k],List.getElem?_eq_getElem hlt⟩;obtain ⟨b2,off,rfl,c0,c1,c2,c3⟩:=HG.o k x hx;have HX:=zhd hx;clear hx;replace c0:=he.cell c0;replace c1:=he.cell c1;replace c2:=he.cell c2;replace c3:=he.cell c3;obtain ⟨xc,xt,⟨xe,xn⟩⟩:=x;go_wp2_with fail
   clear c0 c1 c2 c3;refine Calls.exts (zmn xc xt xe xn n b wr (he.cell hb)) (fun w2 e2=>?_);by_cases hc:xc=n
   ·have hbt:(xc == n)=true:=by simpa using hc
    have HC:=zhd hc;clear hc;go_wp2
    go_ret
    refine ⟨?_,he.trans e2⟩;rw [<- HR.o,zkz HNE.o HX.o HC.o];rfl
   ·have hbt:(xc == n)=false:=by simpa using hc
    have HC:=zhd hc;clear hc;go_wp2
    go_roundw
    case rel =>
     refine ⟨k+1,by omega,by go_num,fun j y hj hy=>?_,he.trans e2⟩;by_cases hjk:j=k
     ·subst hjk;have hy2:l[j]?=some y:=hy;rw [HX.o] at hy2;cases hy2
      exact HC.o
     ·exact HNE.o j y (by omega) hy
    case measure=>simp [intOf]; omega
  ·have hkl:k=l.length:=by omega
   subst hkl;go_wp2
   go_ret
   refine ⟨?_,he⟩;rw [<- HR.o,zn3 HNE.o];rfl

theorem zgk (a:Value) (l:List An) (n:Int) (w:World) (ha:zaj 4 zgO w a l) :
  Calls Tryz.prog 147 #[a,I n] w fun e w'=>e=.returned (I (zdt l n))/\Ext w w':=by
 have e0:Ext w (w.alloc (.cells #[I n] 3)):=(Ext.refl w).alloc _;have hmf:=zhE;go_enter Tryz.func147,Tryz.ntmps147
 go_wp2_with fail
 refine Calls.exts (zj5 a l n w.heap.size _ (ha.ext zfW e0) (by simp)) (fun w2 e2=>?_);go_wp2
 go_ret
 exact ⟨rfl,e0.trans e2⟩

theorem zm9 (c u a p:Value) (s:St) (n:Int) (w:World) (h:zc7 w [c,u,a,p] s) :
  Calls Tryz.prog 136 #[.agg #[c,u,a,p],I n] w fun e w'=>e=.returned (.tuple #[AN (lastAn s.answers n).1,.bool (lastAn s.answers n).2])/\Ext w w':=by
 obtain ⟨h1,h2,h3,h4⟩:=zcQ.1 h;clear h h1 h2 h4;obtain ⟨aa,ac,rfl,g1,g2,g3⟩:=zng h3;unfold maxLen at g2;generalize hl:s.answers=l at *;clear hl;have e0:Ext w ((w.alloc (.cells #[c,u,.slice aa l.length ac,p] 30)).alloc (.cells #[I 0,I 0,I 0,I 0] 118)):=((Ext.refl w).alloc _).alloc _;have HB:=zhd (fun wx (h:Ext ((w.alloc (.cells #[c,u,.slice aa l.length ac,p] 30)).alloc (.cells #[I 0,I 0,I 0,I 0] 118)) wx)=>And.intro (zcT h) (zdq h));rcases zfP l n with ⟨p1,p2,-⟩ | ⟨k,x,p1,p2,p3,-⟩
 ·rw [p2];clear p2 g3;go_enter Tryz.func136,Tryz.ntmps136
  go_wp2_with fail
  generalize hw0:(w.alloc (.cells #[c,u,.slice aa l.length ac,p] 30)).alloc (.cells #[I 0,I 0,I 0,I 0] 118)=w0 at *;clear hw0;refine Calls.exts (zgk _ l n w0 (h3.ext zfW e0)) (fun w1 e1=>?_);rw [p1];obtain ⟨b0,b1⟩:=HB.o w1 e1;obtain ⟨y0,y1,y2,y3,f0,f1,f2,f3⟩:=zcf b1;go_wp2
  clear y0 y1 y2 y3 f0 f1 f2 f3;have b2:=set4 b1 (I 0) (I 0) (I 0) (I 0);obtain ⟨q0,q1,q2,q3,-⟩:=zcf b2;refine bodyPost_ret (by simp [results,Tryz.results136,go_sem,q0,q1,q2,q3]; rfl) rfl ?_;exact ⟨rfl,zbY (e0.trans e1) (b:=w.heap.size+1) (by omega) _ _ _ _⟩
 ·rw [p3];clear p3;obtain ⟨b,off,rfl,c0,c1,c2,c3⟩:=g3 k x p2;have hkl:=(List.getElem?_eq_some_iff.1 p2).1;clear g3 p2;obtain ⟨xc,xt,⟨xe,xn⟩⟩:=x;go_enter Tryz.func136,Tryz.ntmps136
  go_wp2_with fail
  generalize hw0:(w.alloc (.cells #[c,u,.slice (some ⟨b,off,none⟩) l.length ac,p] 30)).alloc (.cells #[I 0,I 0,I 0,I 0] 118)=w0 at *;clear hw0;refine Calls.exts (zgk _ l n w0 (h3.ext zfW e0)) (fun w1 e1=>?_);rw [p1];clear p1;have ew:=e0.trans e1;replace c0:=ew.cell c0;replace c1:=ew.cell c1;replace c2:=ew.cell c2;replace c3:=ew.cell c3;obtain ⟨b0,b1⟩:=HB.o w1 e1;obtain ⟨x0,x1,x2,x3,-⟩:=zcf b0;obtain ⟨y0,y1,y2,y3,f0,f1,f2,f3⟩:=zcf b1;go_wp2
  clear y0 y1 y2 y3 f0 f1 f2 f3 x0 x1 x2 x3 c0 c1 c2 c3;have b2:=set4 b1 (I xc) (I xt) (I xe) (I xn);obtain ⟨q0,q1,q2,q3,-⟩:=zcf b2;refine bodyPost_ret (by simp [results,Tryz.results136,go_sem,q0,q1,q2,q3]; rfl) rfl ?_;exact ⟨rfl,zbY ew (b:=w.heap.size+1) (by omega) _ _ _ _⟩

theorem zoX (l:List An) (k:Nat) (x:An):zbj (l.set k x)=((((zbj l).set (k * 4) (I x.client)).set (k * 4+1) (I x.token)).set (k * 4+2) (I x.reply.err)).set (k * 4+3) (I x.reply.n):=by
 induction l generalizing k with
 | nil=>simp [zbj]
 | cons q l ih =>
  cases k with
  | zero=>rfl
  | succ k =>
   rw [show (k+1) * 4=k * 4+4 by omega,show k * 4+4+1=k * 4+1+4 by omega,show k * 4+4+2=k * 4+2+4 by omega,show k * 4+4+3=k * 4+3+4 by omega]
   show I q.client::I q.token::I q.reply.err::I q.reply.n::zbj (l.set k x)=_
   rw [ih]
   rfl

theorem zsD (v:Value) (l:List An) (xc xt xe xn:Int) (base:Nat) (w:World) (ho:w.ownsRow base 118 4 v l.length (zbj l)) (hr:(l.length+1) * 32<=140737488355328) (hbase:base<=w.heap.size) :
  Calls Tryz.prog 135 #[v,.agg #[I xc,I xt,I xe,I xn]] w fun e w'=>∃ r,e=.returned r/\w'.ownsRow base 118 4 r (zbW l ⟨xc,xt,⟨xe,xn⟩⟩).length (zbj (zbW l ⟨xc,xt,⟨xe,xn⟩⟩))/\w.grownBy w' v.ownBlock:=by
 obtain ⟨i0,hi,hz0,hz1,hz2⟩:=info_parts Tryz.infoAnswer;have HI:=zhd hi;clear hi;have e0:Ext w (w.alloc (.cells #[I xc,I xt,I xe,I xn] 118)):=(Ext.refl w).alloc _;have HB:=zhd (fun wx (h:Ext (w.alloc (.cells #[I xc,I xt,I xe,I xn] 118)) wx)=>zbk h);have HO:=zhd ho;have hrd:=(zgo ho).o;have HLT:=zhd (ho.lt);rcases zfP l xc with ⟨p1,-,p2⟩ | ⟨k,x,p1,p2,-,p3⟩
 ·rw [p2 ⟨xc,xt,⟨xe,xn⟩⟩ rfl];clear p2;obtain ⟨va,vc,rfl⟩:=zaD ho;generalize hv:Value.slice va l.length vc=v at *;clear hv ho;go_enter Tryz.func135,Tryz.ntmps135
  go_wp2_with fail
  refine Calls.exts (zgk v l xc _ (hrd.ext zfW e0)) (fun w1 e1=>?_);rw [p1];have ew:=e0.trans e1;obtain ⟨y0,y1,y2,y3,-⟩:=zcf (HB.o w1 e1);go_wp2_with (at_builtin; refine zb7 ?_)
  unfold Hid;have hlit:=zqz (w:=w1) 118 ⟨xc,xt,⟨xe,xn⟩⟩;have hle:=ew.size;refine zaJ _ rfl (.tmp 12) (.tmp 14) 27 rfl base 118 i0 (.agg #[.int .i64 0,.int .i64 0,.int .i64 0,.int .i64 0]) 4 32 zt4 HI.o hz0 hz1 hz2 rfl (by decide) v l.length (zbj l) rfl (zai HO.o (ew.alloc _)) _ rfl 1 _ hlit (zi1 _) (by omega) (by decide) (by simp; omega) ?_;intro v' w' ho2 hg;clear hlit y0 y1 y2 y3;go_wp2
  go_ret
  rw [<- zkj] at ho2;refine ⟨_,rfl,by simpa using ho2,?_⟩;exact zaz ((ew.alloc _).grownBy _) hg
 ·rw [p3 ⟨xc,xt,⟨xe,xn⟩⟩ rfl];have hkl:=(List.getElem?_eq_some_iff.1 p2).1;clear p3 p2;rcases ho.2 with ⟨rfl,hn⟩ | ⟨g,cap,cur,rfl,hb,hg,hn,hm,hs,ht⟩
  ·omega
  clear hg ht hs ho;unfold maxLen at hm;go_enter Tryz.func135,Tryz.ntmps135
  go_wp2_with fail
  refine Calls.exts (zgk _ l xc _ (hrd.ext zfW e0)) (fun w1 e1=>?_);rw [p1];clear p1;have ew:=e0.trans e1;have ho1:=zai HO.o ew;obtain ⟨y0,y1,y2,y3,-⟩:=zcf (HB.o w1 e1);have hne:g≠w.heap.size:=by have:=(HLT.o g rfl).2; omega
  have hl4:=zgH l;have c0:w1.cell? ⟨g,k * 4,none⟩=some ((zbj l)[k * 4]'(by omega)):=by rw [ho1.cellAt _ (by omega)]; exact List.getElem?_eq_getElem _
  have c1:w1.cell? ⟨g,k * 4+1,none⟩=some ((zbj l)[k * 4+1]'(by omega)):=by rw [ho1.cellAt _ (by omega)]; exact List.getElem?_eq_getElem _
  have c2:w1.cell? ⟨g,k * 4+2,none⟩=some ((zbj l)[k * 4+2]'(by omega)):=by rw [ho1.cellAt _ (by omega)]; exact List.getElem?_eq_getElem _
  have c3:w1.cell? ⟨g,k * 4+3,none⟩=some ((zbj l)[k * 4+3]'(by omega)):=by rw [ho1.cellAt _ (by omega)]; exact List.getElem?_eq_getElem _
  generalize (zbj l)[k * 4]'(by omega)=z0 at c0;generalize (zbj l)[k * 4+1]'(by omega)=z1 at c1;generalize (zbj l)[k * 4+2]'(by omega)=z2 at c2;generalize (zbj l)[k * 4+3]'(by omega)=z3 at c3;have fz:=ho1.frozenAt;have HO1:=zhd ho1;clear ho1 hl4;go_wp2
  clear c0 c1 c2 c3 fz y0 y1 y2 y3;go_ret
  have s0:=HO1.o.stored (k * 4) (I xc);have s1:=s0.1.stored (k * 4+1) (I xt);have s2:=s1.1.stored (k * 4+2) (I xe);have s3:=s2.1.stored (k * 4+3) (I xn);refine ⟨_,rfl,?_,?_⟩
  ·rw [zoX,List.length_set];exact s3.1
  ·exact zaz (zaz (zaz (zaz (ew.grownBy _) s0.2) s1.2) s2.2) s3.2

theorem zlq (w:World):za3 Tryz.prog 43 #[] w (fun _=>False) (fun r w'=>Agg zc7 newSt r w'):=by
 unfold za3;have HB:=zhd (fun wx (h:Ext (w.alloc (.cells zT4 30)) wx)=>zbk h);have e0:Ext w (w.alloc (.cells zT4 30)):=(Ext.refl w).alloc _;go_enter Tryz.func43,Tryz.ntmps43
 go_wp2_with fail
 generalize hw0:w.alloc (.cells zT4 30)=w0 at *;have hsz:w0.heap.size=w.heap.size+1:=by rw [<- hw0]; simp
 clear hw0;refine (zs0 w0).to fun r w1 e1 ⟨n,ho⟩=>?_;obtain ⟨ra,rc,hrs⟩:=zaD ho;subst hrs;have HO:=zhd (zeN ho);clear ho;have b1:=HB.o w1 e1;obtain ⟨y0,y1,y2,y3,f0,f1,f2,f3⟩:=zcf b1;go_wp2
 clear y0 y1 y2 y3 f0 f1 f2 f3;have b2:=set4 b1 (.slice ra n rc) (.slice none 0 0) (.slice none 0 0) (.slice none 0 0);obtain ⟨q0,q1,q2,q3,-⟩:=zcf b2;refine bodyPost_ret (by simp [results,Tryz.results43,go_sem,q0,q1,q2,q3]; rfl) rfl ?_;have n1:¬ (w0.heap.size<=w.heap.size):=by omega
 refine ⟨_,rfl,zbY (e0.trans e1) (Nat.le_refl _) _ _ _ _,Rd.widen (A:=fun k=>w0.heap.size<=k) (zcM (zjY (s:=newSt) ?_ ?_ ?_ ?_)) (fun k _ h=>.inr (by omega))⟩
 ·exact (((HO.o.set n1 _ _).set n1 _ _).set n1 _ _).set n1 _ _
 ·exact Rd.all fun w=>zbr w
 ·exact Rd.all fun w=>zaj.nil w
 ·exact Rd.all fun w=>zaj.nil w

end Go.Proofs.YtdmipnnfoolelagGreatDoor
