/- Texts of the proof, merged: N20 U1 N19. -/
import Derived.Test.YtdmipnnfoolelafGreatKTA
import Derived.Test.YtdmipnnfoolelafGreatKT0
import Derived.Test.YtdmipnnfoolelafGreatKTG
import Derived.Test.YtdmipnnfoolelafGreatKTX
set_option maxHeartbeats 4000000
set_option maxRecDepth 100000

namespace Go.Proofs.YtdmipnnfoolelafGreat
open Go.RowKit Go.Mk

def zeE (m:Mc) (k:Nat):Mc:=(List.range k).foldl (fun m (n:Nat)=>(doM m 1 (n:Int)).1) (za6 m)
theorem zfe (m:Mc) (k:Nat):zeE m (k+1)=(doM (zeE m k) 1 (k:Int)).1:=by
 unfold zeE
 rw [List.range_succ,List.foldl_append]
 rfl
theorem round_all (m:Mc):roundM m=(doM (zeE m (za6 m).clients.length) 2 0).1:=rfl
theorem zoZ {m:Mc} {k:Nat} (h:SizeM m k):SizeM (za6 m) k:=by
 unfold za6
 split
 ·exact h
 ·split
  ·exact ⟨h.undo,h.answers,h.past,h.box,h.each⟩
  ·exact ⟨Nat.zero_le _,h.answers,h.past,Nat.zero_le _,h.each⟩
theorem znI {l:List (List Cl)} (hl:za8 l) {m:Mc} {ks:List Nat} {bz:Option Nat} (h:MInv l m ks bz) (k:Nat):∃ ks' bz',MInv l (zeE m k) ks' bz':=by
 induction k with
 | zero=>exact zfz h
 | succ k ih =>
  obtain ⟨_,_,h1⟩:=ih
  rw [zfe]
  exact zjt hl h1 _ _
theorem zmB {m:Mc} {j:Nat} (h:SizeM m j) (k:Nat):SizeM (zeE m k) (j+k):=by
 induction k with
 | zero=>exact zoZ h
 | succ k ih =>
  rw [zfe]
  exact zmc ih _ _
theorem zpm {l:List (List Cl)} (hl:za8 l) {m:Mc} {ks:List Nat} {bz:Option Nat} (h:MInv l m ks bz) {j:Nat} (hs:SizeM m j) (hj:j+l.length<=1000):Fit m/\∀ k,k<=(za6 m).clients.length->Fit (zeE m k):=by
 refine ⟨zlA hl h hs (by omega),fun k hk=>?_⟩
 obtain ⟨_,_,h0⟩:=zfz h
 obtain ⟨_,_,h1⟩:=znI hl h k
 exact zlA hl h1 (zmB hs k) (by have:=h0.nc; omega)

theorem zgQ (m:Mc) (c u a p box plan cl:Value) (w:World) (A:Nat->Prop) (h:RdM A w m c u a p box plan cl) (hf:Fit m) (hF:∀ k,k<=(za6 m).clients.length->Fit (zeE m k)) :
  zaK Tryz.prog 15 #[.agg (zaH m c u a p box plan cl).toArray] w A (fun r w'=>Agg zc1 (roundM m) r w'):=by
 unfold zaK;have FIT:=zhd hf;have FITS:=zhd hF;have hcl:(za6 m).clients.length<=1000:=(hF 0 (Nat.zero_le _)).clients;obtain ⟨ca,cc,ua,uc,aa,ac,pa,pc,xa,xc,la,lc,ka,kc,rfl,rfl,rfl,rfl,rfl,rfl,rfl⟩:=h.slices;obtain ⟨E0,HE0⟩:∃ E:Nat->Prop,Hid (∀ k,E k↔(A k/\k < w.heap.size)):=⟨_,fun _=>Iff.rfl⟩;have H:=zhd (h.widen (B:=E0) (fun k hk h=>(HE0.o k).2 ⟨h,hk⟩));clear h hf hF;have EW:=zhd (Ext.refl w);go_enter Tryz.func15,Tryz.ntmps15
 go_wp2_with (with_reducible refine zT ?_)
 refine zaj rfl 44 (.tmp 0) rfl #[.slice ca m.store.cells.length cc,.slice ua m.store.undo.length uc,.slice aa m.store.answers.length ac,.slice pa m.store.past.length pc,I m.server.gen,.slice xa m.server.box.length xc,.bool m.server.busy,I m.server.now.client,I m.server.now.token,I m.server.now.call.kind,I m.server.now.call.name,I m.server.now.call.other,I m.server.now.call.n,.slice la m.server.plan.length lc,I m.server.says.err,I m.server.says.n,.bool m.up,I m.pause,I m.falls,.slice ka m.clients.length kc] rfl (fun b0 w1_ M1=>?_);have zab:=zmb M1;have zaF:Hid (¬ E0 b0):=fun h=>by have q:=((HE0.o _).1 h).2; have q1:=M1.o.at_; omega
 have zbm:Hid (w.heap.size<=b0):=by unfold Hid; have q1:=M1.o.at_; omega
 go_wp2_with (with_reducible refine zT ?_)
 refine zae rfl 44 zM (by kernel_rfl) (fun b1 w2_ M2=>?_);have zaw:=zld zab M2;have zad:=zmb M2;have zat:Hid (¬ E0 b1):=fun h=>by have q:=((HE0.o _).1 h).2; have q1:=zaw.o; have q2:=zbm.o; omega
 have zaZ:Hid (w.heap.size<=b1):=by unfold Hid; have q1:=zaw.o; have q2:=zbm.o; omega
 go_wp2_with (with_reducible refine zT ?_)
 replace zab:=zmo M2 zab;refine zah rfl 44 (.tmp 1) rfl b0 rfl zab zaS zaG (fun v4 H_v4=>?_);go_wp2_with fail
 rw [show _=Value.agg #[.slice ca m.store.cells.length cc,.slice ua m.store.undo.length uc,.slice aa m.store.answers.length ac,.slice pa m.store.past.length pc,I m.server.gen,.slice xa m.server.box.length xc,.bool m.server.busy,I m.server.now.client,I m.server.now.token,I m.server.now.call.kind,I m.server.now.call.name,I m.server.now.call.other,I m.server.now.call.n,.slice la m.server.plan.length lc,I m.server.says.err,I m.server.says.n,.bool m.up,I m.pause,I m.falls,.slice ka m.clients.length kc] from H_v4.o];replace H:=zhd ((zhd (H.o.ext M1.o.ext)).o.ext M2.o.ext);refine (zhw m _ _ _ _ _ _ _ w2_ E0 H.o (by have q:=FIT.o.cells; omega) FIT.o.gen FIT.o.pause).to fun r w9 e9 hr=>?_;clear H_v4;obtain ⟨cs,rfl,hcs⟩:=zbS hr;obtain ⟨c1,u1,a1,p1,box1,plan1,cl1,rfl,hm1⟩:=zbX hcs;obtain ⟨ca1,cc1,ua1,uc1,aa1,ac1,pa1,pc1,xa1,xc1,la1,lc1,ka1,kc1,rfl,rfl,rfl,rfl,rfl,rfl,rfl⟩:=hm1.slices;clear hcs hr H;have SC:Hid (b1 < w2_.heap.size):=(zlt zad);obtain ⟨E,HE⟩:∃ X:Nat->Prop,Hid (∀ k,X k↔((E0 k∨w2_.heap.size<=k)/\k < w9.heap.size)):=⟨_,fun _=>Iff.rfl⟩;have H:=zhd (hm1.widen (B:=E) (fun k hk h=>(HE.o k).2 ⟨h,hk⟩));replace zaF:Hid (¬ E b0):=fun h=>by rcases ((HE.o _).1 h).1 with q | q; exact zaF.o q; exact absurd q (by have q1:=zaw.o; have q2:=SC.o; omega)
 replace zat:Hid (¬ E b1):=fun h=>by rcases ((HE.o _).1 h).1 with q | q; exact zat.o q; exact absurd q (by have q2:=SC.o; omega)
 have HIN:Hid (∀ j,E j->j < w9.heap.size/\(A j∨w.heap.size<=j)):=fun j h=>⟨((HE.o _).1 h).2,by rcases ((HE.o _).1 h).1 with q | q; exact .inl ((HE0.o _).1 q).1; exact .inr (by have q1:=zaZ.o; have q2:=SC.o; omega)⟩;clear HE hm1 SC;replace EW:=zhd ((zet (zet EW M1) M2).o.trans e9);replace zab:=zbx zab e9;replace zad:=zbx zad e9;clear e9;go_wp2_with (with_reducible refine zT ?_)
 refine zac rfl 44 (.tmp 1) (.tmp 5) rfl b0 rfl [.slice ca1 (za6 m).store.cells.length cc1,.slice ua1 (za6 m).store.undo.length uc1,.slice aa1 (za6 m).store.answers.length ac1,.slice pa1 (za6 m).store.past.length pc1,I (za6 m).server.gen,.slice xa1 (za6 m).server.box.length xc1,.bool (za6 m).server.busy,I (za6 m).server.now.client,I (za6 m).server.now.token,I (za6 m).server.now.call.kind,I (za6 m).server.now.call.name,I (za6 m).server.now.call.other,I (za6 m).server.now.call.n,.slice la1 (za6 m).server.plan.length lc1,I (za6 m).server.says.err,I (za6 m).server.says.n,.bool (za6 m).up,I (za6 m).pause,I (za6 m).falls,.slice ka1 (za6 m).clients.length kc1] (rfl) zab rfl zaG rfl (fun w3_ M3=>?_);replace zab:=zwb M3;replace HIN:Hid (∀ j,E j->j < w3_.heap.size/\(A j∨w.heap.size<=j)):=fun j h=>⟨Nat.lt_of_lt_of_le (HIN.o j h).1 (Nat.le_of_eq M3.o.size.symm),(HIN.o j h).2⟩;have c19:=zaa (i:=19) zab.o rfl;go_wp2_with fail
 clear c19;replace zad:=zwg M3 zad zaw;replace H:=zHw M3 H zaF;replace EW:=zwe M3 EW zbm;go_loopw [9] (fun i wr=>∃ (k:Nat) (E:Nat->Prop) (mk:Mc) (c u a p box plan cl:Value),k<=(za6 m).clients.length/\i=I k/\mk=zeE m k/\RdM E wr mk c u a p box plan cl/\(∀ j,E j->j < wr.heap.size/\(A j∨w.heap.size<=j))/\¬ E b0/\¬ E b1/\wr.heap[b0]?=some (.cells (zaH mk c u a p box plan cl).toArray 44 (0,0))/\wr.heap[b1]?=some (.cells zM 44 (0,0))/\Ext w wr) (fun i _=>(za6 m).clients.length - (intOf i).toNat)
 case atStart=>exact ⟨0,E,za6 m,_,_,_,_,_,_,_,Nat.zero_le _,rfl,rfl,H.o,HIN.o,zaF.o,zat.o,zab.o,zad.o,EW.o⟩
 case round =>
  obtain ⟨k,E',mk,c',u',a',p',box',plan',cl',hk,rfl,hmk,hm,hE,n0,n1,hb0,hb1,hex⟩:=hrel;clear zab zad H EW zaF zat HIN;obtain ⟨ca,cc,ua,uc,aa,ac,pa,pc,xa,xc,la,lc,ka,kc,rfl,rfl,rfl,rfl,rfl,rfl,rfl⟩:=hm.slices;have HM:=zhd hmk;have H:=zhd hm;have HIN:=zhd hE;have zaF:=zhd n0;have zat:=zhd n1;have zab:Hid (wr.heap[b0]?=some (.cells #[.slice ca mk.store.cells.length cc,.slice ua mk.store.undo.length uc,.slice aa mk.store.answers.length ac,.slice pa mk.store.past.length pc,I mk.server.gen,.slice xa mk.server.box.length xc,.bool mk.server.busy,I mk.server.now.client,I mk.server.now.token,I mk.server.now.call.kind,I mk.server.now.call.name,I mk.server.now.call.other,I mk.server.now.call.n,.slice la mk.server.plan.length lc,I mk.server.says.err,I mk.server.says.n,.bool mk.up,I mk.pause,I mk.falls,.slice ka mk.clients.length kc] 44 (0,0))):=hb0;have zad:=zhd hb1;have EW:=zhd hex;clear hmk hm hE n0 n1 hb0 hb1 hex;generalize hEr:(E':Nat->Prop)=E at *;clear hEr E';have FK:=zhd (FITS.o k hk);rw [<- HM.o] at FK;by_cases hlt:k < (za6 m).clients.length
  ·go_wp2_with (with_reducible refine zT ?_)
   refine zah rfl 44 (.tmp 1) rfl b0 rfl zab zaS zaG (fun v13 H_v13=>?_);go_wp2_with fail
   rw [show _=Value.agg #[.slice ca mk.store.cells.length cc,.slice ua mk.store.undo.length uc,.slice aa mk.store.answers.length ac,.slice pa mk.store.past.length pc,I mk.server.gen,.slice xa mk.server.box.length xc,.bool mk.server.busy,I mk.server.now.client,I mk.server.now.token,I mk.server.now.call.kind,I mk.server.now.call.name,I mk.server.now.call.other,I mk.server.now.call.n,.slice la mk.server.plan.length lc,I mk.server.says.err,I mk.server.says.n,.bool mk.up,I mk.pause,I mk.falls,.slice ka mk.clients.length kc] from H_v13.o];refine (zgA mk _ _ _ _ _ _ _ 1 (k:Int) wr E H.o FK.o).to fun r w9 e9 hr=>?_;obtain ⟨m2,er,hD⟩:∃ x y,doM mk 1 (k:Int)=(x,y):=⟨_,_,rfl⟩;rw [hD] at hr;have HD:=zhd hD;clear hD H_v13;simp only [] at hr;obtain ⟨cs,rfl,hcs⟩:=zdC hr;obtain ⟨c2,u2,a2,p2,box2,plan2,cl2,rfl,hm2⟩:=zbX hcs;obtain ⟨ca2,cc2,ua2,uc2,aa2,ac2,pa2,pc2,xa2,xc2,la2,lc2,ka2,kc2,rfl,rfl,rfl,rfl,rfl,rfl,rfl⟩:=hm2.slices;clear hcs hr H;have SC:Hid (b1 < wr.heap.size):=(zlt zad);obtain ⟨E2,HE2⟩:∃ X:Nat->Prop,Hid (∀ k,X k↔((E k∨wr.heap.size<=k)/\k < w9.heap.size)):=⟨_,fun _=>Iff.rfl⟩;have H:=zhd (hm2.widen (B:=E2) (fun k hk h=>(HE2.o k).2 ⟨h,hk⟩));replace zaF:Hid (¬ E2 b0):=fun h=>by rcases ((HE2.o _).1 h).1 with q | q; exact zaF.o q; exact absurd q (by have q1:=zaw.o; have q2:=SC.o; omega)
   replace zat:Hid (¬ E2 b1):=fun h=>by rcases ((HE2.o _).1 h).1 with q | q; exact zat.o q; exact absurd q (by have q2:=SC.o; omega)
   have HIN2:Hid (∀ j,E2 j->j < w9.heap.size/\(A j∨w.heap.size<=j)):=fun j h=>⟨((HE2.o _).1 h).2,by rcases ((HE2.o _).1 h).1 with q | q; exact (HIN.o j q).2; exact .inr (by have q1:=zaZ.o; have q2:=SC.o; omega)⟩;clear HE2 hm2 SC HIN;replace zab:=zbx zab e9;replace zad:=zbx zad e9;replace EW:=zhd (EW.o.trans e9);clear e9;go_wp2_with (with_reducible refine zT ?_)
   refine zac rfl 44 (.tmp 1) (.tmp 17) rfl b0 rfl [.slice ca2 m2.store.cells.length cc2,.slice ua2 m2.store.undo.length uc2,.slice aa2 m2.store.answers.length ac2,.slice pa2 m2.store.past.length pc2,I m2.server.gen,.slice xa2 m2.server.box.length xc2,.bool m2.server.busy,I m2.server.now.client,I m2.server.now.token,I m2.server.now.call.kind,I m2.server.now.call.name,I m2.server.now.call.other,I m2.server.now.call.n,.slice la2 m2.server.plan.length lc2,I m2.server.says.err,I m2.server.says.n,.bool m2.up,I m2.pause,I m2.falls,.slice ka2 m2.clients.length kc2] (rfl) zab rfl zaG rfl (fun w61_ M61=>?_);replace zab:=zwb M61;replace HIN2:Hid (∀ j,E2 j->j < w61_.heap.size/\(A j∨w.heap.size<=j)):=fun j h=>⟨Nat.lt_of_lt_of_le (HIN2.o j h).1 (Nat.le_of_eq M61.o.size.symm),(HIN2.o j h).2⟩;go_wp2
   replace zad:=zwg M61 zad zaw;replace H:=zHw M61 H zaF;replace EW:=zwe M61 EW zbm;go_roundw
   case rel =>
    have hp:m2=zeE m (k+1):=by
     rw [zfe,<- HM.o];exact (congrArg Prod.fst HD.o).symm
    exact ⟨k+1,E2,m2,_,_,_,_,_,_,_,by omega,by go_num,hp,H.o,HIN2.o,zaF.o,zat.o,zab.o,zad.o,EW.o⟩
   case measure=>simp [intOf]; omega
  ·have hkl:k=(za6 m).clients.length:=by omega
   go_wp2_with (with_reducible refine zT ?_)
   refine zah rfl 44 (.tmp 1) rfl b0 rfl zab zaS zaG (fun v21 H_v21=>?_);go_wp2_with fail
   rw [show _=Value.agg #[.slice ca mk.store.cells.length cc,.slice ua mk.store.undo.length uc,.slice aa mk.store.answers.length ac,.slice pa mk.store.past.length pc,I mk.server.gen,.slice xa mk.server.box.length xc,.bool mk.server.busy,I mk.server.now.client,I mk.server.now.token,I mk.server.now.call.kind,I mk.server.now.call.name,I mk.server.now.call.other,I mk.server.now.call.n,.slice la mk.server.plan.length lc,I mk.server.says.err,I mk.server.says.n,.bool mk.up,I mk.pause,I mk.falls,.slice ka mk.clients.length kc] from H_v21.o];refine (zgA mk _ _ _ _ _ _ _ 2 0 wr E H.o FK.o).to fun r w9 e9 hr=>?_;obtain ⟨m2,er,hD⟩:∃ x y,doM mk 2 0=(x,y):=⟨_,_,rfl⟩;rw [hD] at hr;have HD:=zhd hD;clear hD H_v21;simp only [] at hr;obtain ⟨cs,rfl,hcs⟩:=zdC hr;obtain ⟨c2,u2,a2,p2,box2,plan2,cl2,rfl,hm2⟩:=zbX hcs;obtain ⟨ca2,cc2,ua2,uc2,aa2,ac2,pa2,pc2,xa2,xc2,la2,lc2,ka2,kc2,rfl,rfl,rfl,rfl,rfl,rfl,rfl⟩:=hm2.slices;clear hcs hr H;have SC:Hid (b1 < wr.heap.size):=(zlt zad);obtain ⟨E2,HE2⟩:∃ X:Nat->Prop,Hid (∀ k,X k↔((E k∨wr.heap.size<=k)/\k < w9.heap.size)):=⟨_,fun _=>Iff.rfl⟩;have H:=zhd (hm2.widen (B:=E2) (fun k hk h=>(HE2.o k).2 ⟨h,hk⟩));replace zaF:Hid (¬ E2 b0):=fun h=>by rcases ((HE2.o _).1 h).1 with q | q; exact zaF.o q; exact absurd q (by have q1:=zaw.o; have q2:=SC.o; omega)
   replace zat:Hid (¬ E2 b1):=fun h=>by rcases ((HE2.o _).1 h).1 with q | q; exact zat.o q; exact absurd q (by have q2:=SC.o; omega)
   have HIN2:Hid (∀ j,E2 j->j < w9.heap.size/\(A j∨w.heap.size<=j)):=fun j h=>⟨((HE2.o _).1 h).2,by rcases ((HE2.o _).1 h).1 with q | q; exact (HIN.o j q).2; exact .inr (by have q1:=zaZ.o; have q2:=SC.o; omega)⟩;clear HE2 hm2 SC HIN;replace zab:=zbx zab e9;replace zad:=zbx zad e9;replace EW:=zhd (EW.o.trans e9);clear e9;go_wp2_with (with_reducible refine zT ?_)
   refine zac rfl 44 (.tmp 1) (.tmp 24) rfl b0 rfl [.slice ca2 m2.store.cells.length cc2,.slice ua2 m2.store.undo.length uc2,.slice aa2 m2.store.answers.length ac2,.slice pa2 m2.store.past.length pc2,I m2.server.gen,.slice xa2 m2.server.box.length xc2,.bool m2.server.busy,I m2.server.now.client,I m2.server.now.token,I m2.server.now.call.kind,I m2.server.now.call.name,I m2.server.now.call.other,I m2.server.now.call.n,.slice la2 m2.server.plan.length lc2,I m2.server.says.err,I m2.server.says.n,.bool m2.up,I m2.pause,I m2.falls,.slice ka2 m2.clients.length kc2] (rfl) zab rfl zaG rfl (fun w61_ M61=>?_);replace zab:=zwb M61;replace HIN2:Hid (∀ j,E2 j->j < w61_.heap.size/\(A j∨w.heap.size<=j)):=fun j h=>⟨Nat.lt_of_lt_of_le (HIN2.o j h).1 (Nat.le_of_eq M61.o.size.symm),(HIN2.o j h).2⟩;go_wp2_with (with_reducible refine zT ?_)
   refine zah rfl 44 (.tmp 1) rfl b0 rfl zab zaS zaG (fun v26 H_v26=>?_);go_wp2_with (with_reducible refine zT ?_)
   replace zad:=zwg M61 zad zaw;refine zac rfl 44 (.tmp 2) (.tmp 26) rfl b1 rfl _ (zcv H_v26) zad rfl zaG rfl (fun w62_ M62=>?_);replace zad:=zwb M62;go_wp2
   have z0:=zaq (P:=Tryz.prog) 44 zad.o zaS (by kernel_rfl);refine bodyPost_ret (by simp [results,Tryz.results15,asAddr,z0,Act.put]; rfl) rfl ?_
   have hp:m2=roundM m:=by
    rw [round_all,<- hkl,<- HM.o];exact (congrArg Prod.fst HD.o).symm
   replace H:=zHw M62 (zHw M61 H zaF) zat;have r1:=(H.o.widen (B:=fun k=>A k∨w.heap.size<=k) (fun k _ h=>(HIN2.o k h).2)).mc;rw [<- hp];replace EW:=zwe M62 (zwe M61 EW zbm) zaZ;exact ⟨_,rfl,EW.o,r1.imp fun w' h=>⟨_,rfl,h⟩⟩

open Go.RowKit Go.Mk

def zcE (l:List (List Cl)) (steps:List (Int×Int)):Int:=if zfa l≠0 then zfa l else if 400 < steps.length then 5 else 0
def znS (l:List (List Cl)) (steps:List (Int×Int)) (r:Value) (w:World):Prop:=∃ (cs:List Value) (es:Value),r=.tuple #[.agg cs.toArray,es,I (zcE l steps)] /\
 (zcE l steps=0->za8 l/\zc1 w cs (zcu (za1 l) steps)/\zby w es (zda (za1 l) steps))/\(zcE l steps≠0->∃ M:Mc,M.clients=[]/\zc1 w cs M/\zby w es [])
def zke:Prop:=∀ (v sv:Value) (l:List (List Cl)) (steps:List (Int×Int)) (w:World) (A:Nat->Prop),Rd A (fun w=>zas 1 zdI w v l) w->zax w sv steps->zaK Tryz.prog 11 #[v,sv] w A (znS l steps)
def zhc:Prop:=∀ (l:List (List Cl)) (m:Mc) (c u a p box plan cl:Value) (w:World) (A:Nat->Prop),RdM A w m c u a p box plan cl->GzM l m->zaK Tryz.prog 14 #[.agg (zaH m c u a p box plan cl).toArray] w A (fun r w'=>Agg zc1 (roundM m) r w')
def zgG:Prop:=∀ (l:List (List Cl)) (m:Mc) (c u a p box plan cl:Value) (w:World) (A:Nat->Prop),RdM A w m c u a p box plan cl->GzM l m->zaK Tryz.prog 16 #[.agg (zaH m c u a p box plan cl).toArray] w A (fun r w'=>zgz zc1 (zbg 300 m).1 ((zbg 300 m).2:Int) r w')

theorem zmx {l:List (List Cl)} {steps:List (Int×Int)} {r:Value} {A:Nat->Prop} {w:World} (h:Rd A (znS l steps r) w):∃ (cs:List Value) (es:Value),r=.tuple #[.agg cs.toArray,es,I (zcE l steps)] /\
  (zcE l steps=0->za8 l/\Rd A (fun w=>zc1 w cs (zcu (za1 l) steps)) w/\Rd A (fun w=>zby w es (zda (za1 l) steps)) w)/\(zcE l steps≠0->∃ M:Mc,M.clients=[]/\zc1 w cs M/\zby w es []):=by
 obtain ⟨cs,es,e1,h1,h2⟩:=h.o
 have key:∀ w',znS l steps r w'->zcE l steps=0->zc1 w' cs (zcu (za1 l) steps)/\zby w' es (zda (za1 l) steps):=fun w' hw h0=>by
  obtain ⟨cs',es',e1',h3,-⟩:=hw
  rw [e1] at e1'
  simp only [Value.tuple.injEq,Array.mk.injEq,List.cons.injEq,Value.agg.injEq,and_true] at e1'
  obtain ⟨q1,q2⟩:=e1'
  have q1:cs=cs':=by simpa using q1
  subst q1 q2
  exact (h3 h0).2
 exact ⟨cs,es,e1,fun h0=>⟨(h1 h0).1,h.imp fun w' hw=>(key w' hw h0).1,h.imp fun w' hw=>(key w' hw h0).2⟩,h2⟩
theorem zom {l:List (List Cl)} {steps:List (Int×Int)} (h:zcE l steps=0):zfa l=0/\steps.length<=400:=by
 unfold zcE at h
 split at h
 ·rename_i q; exact absurd h q
 ·rename_i q
  split at h
  ·cases h
  ·exact ⟨by simpa using q,by omega⟩

theorem zoX {l:List (List Cl)} {m:Mc} (h:GzM l m):Gd l m 24:=⟨h.right,h.inv,h.size⟩
theorem zl7 {l:List (List Cl)} {m:Mc} (h:GzM l m):Fit m:=(zoX h).fit (by decide)
theorem zoO {l:List (List Cl)} {m:Mc} (h:GzM l m):∀ k,k<=(za6 m).clients.length->Fit (zeE m k):=by
 obtain ⟨h1,⟨ks,bz,h2⟩,h3⟩:=id h
 exact (zpm h1 h2 h.size (by have:=h1.1; omega)).2
theorem zfc {m:Mc} (n:Nat) (h:n=0∨zdN m=true):zbg n m=(m,0):=by
 cases n with
 | zero=>rfl
 | succ n =>
  rcases h with h | h
  ·cases h
  ·unfold zbg; rw [if_pos h]
theorem zd1 {m:Mc} (n:Nat) (h:zdN m=false):zbg (n+1) m=((zbg n (roundM m)).1,(zbg n (roundM m)).2+1):=by
 conv=>lhs; unfold zbg
 rw [if_neg (by rw [h]; exact Bool.false_ne_true)]

open Go.RowKit Go.Mk

theorem zmD (m:Mc) (c u a p box plan cl:Value) (w:World) {A:Nat->Prop} (hx:RdM A w m c u a p box plan cl) :
  Calls Tryz.prog 17 #[.agg (zaH m c u a p box plan cl).toArray] w fun e w'=>e=.returned (.bool (zdN m))/\Ext w w':=by
 obtain ⟨ka,kc,rfl,k1,k2,k3⟩:=zio hx.clients.o;unfold maxLen at k2;have K3:=zhd k3;clear hx k3;obtain ⟨⟨sc,su,sa,sp⟩,⟨gen,bl,busy,⟨nc,nt,⟨nk,na,no,nn⟩⟩,pl,⟨se,sn⟩⟩,up,pause,falls,cls⟩:=m;unfold zdN;obtain ⟨G,HG⟩:∃ G:Bool,Hid ((cls.all fun c=>decide ((c.calls.length:Int)<=c.at_))=G):=⟨_,rfl⟩;simp only [show (cls.all fun c=>decide ((c.calls.length:Int)<=c.at_))=G from HG.o];have EW:=zhd (Ext.refl w);go_enter Tryz.func17,Tryz.ntmps17
 go_wp2_with (with_reducible refine zT ?_)
 refine zaj rfl 44 (.tmp 0) rfl #[c,u,a,p,I gen,box,.bool busy,I nc,I nt,I nk,I na,I no,I nn,plan,I se,I sn,.bool up,I pause,I falls,.slice ka cls.length kc] rfl (fun b0 w1_ M1=>?_);have zab:=zmb M1;have c19:=zaa (i:=19) zab.o rfl;go_wp2
 clear c19;replace EW:=zet EW M1;go_loopw [3,9] (fun o i wr=>∃ k:Nat,k<=cls.length/\i=I k/\o=.bool ((cls.take k).all fun c=>decide ((c.calls.length:Int)<=c.at_))/\Ext w1_ wr) (fun _ i _=>cls.length - (intOf i).toNat)
 case atStart=>exact ⟨0,by omega,rfl,rfl,Ext.refl _⟩
 case round =>
  obtain ⟨k,hk,rfl,rfl,he⟩:=hrel;by_cases hlt:k < cls.length
  ·obtain ⟨x,hx⟩:∃ x,cls[k]?=some x:=⟨cls[k],List.getElem?_eq_getElem hlt⟩;obtain ⟨b,off,x1,x2,x3,rfl,c0,c1,c2,c3,c4,c5,g1⟩:=K3.o k x hx;obtain ⟨cla,clc,rfl⟩:=zag (zgo.1 g1).1;obtain ⟨cxa,cxc,rfl⟩:=zag (zgo.1 g1).2.1;obtain ⟨cga,cgc,rfl⟩:=zag (zgo.1 g1).2.2
   have HO:Hid ((cls.take (k+1)).all (fun c=>decide ((c.calls.length:Int)<=c.at_))=((cls.take k).all (fun c=>decide ((c.calls.length:Int)<=c.at_)) && decide ((x.calls.length:Int)<=x.at_))):=by
    unfold Hid; rw [List.take_add_one,hx]; simp
   clear hx g1;obtain ⟨oo,HOO⟩:∃ oo,Hid ((cls.take k).all (fun c=>decide ((c.calls.length:Int)<=c.at_))=oo):=⟨_,rfl⟩;simp only [show ((cls.take k).all (fun c=>decide ((c.calls.length:Int)<=c.at_)))=oo from HOO.o];obtain ⟨xl,xt,xs,xg,xb,xo⟩:=x;simp only [] at c0 c1 c2 c3 c4 c5;have mr:Ext w wr:=EW.o.trans he;replace c0:=mr.cell c0;replace c1:=mr.cell c1;replace c2:=mr.cell c2;replace c3:=mr.cell c3;replace c4:=mr.cell c4;replace c5:=mr.cell c5;replace EW:=zhd he;have HSZ:Hid (w1_.heap.size<=wr.heap.size):=he.size;go_wp2_with ((with_reducible refine zst (L:=[44,41,31]) ?_ ?_); exact rfl)
   clear c0 c1 c2 c3 c4 c5 mr;refine zae rfl 55 zC (by kernel_rfl) (fun b1 w11_ M11=>?_);have zad:=zmb M11;have zaZ:Hid (w1_.heap.size<=b1):=by unfold Hid; have q2:=M11.o.at_; have q3:=HSZ.o; omega
   go_wp2_with (with_reducible refine zT ?_)
   refine zac rfl 55 (.tmp 5) (.tmp 12) rfl b1 rfl [.slice cla xl.length clc,I xt,.bool xs,I xg,.slice cxa xb.length cxc,.slice cga xo.length cgc] (rfl) zad rfl zbI rfl (fun w12_ M12=>?_);replace zad:=zwb M12;have e0:=zaa (i:=0) zad.o rfl;have e1:=zaa (i:=1) zad.o rfl;replace EW:=zwe M12 (zet EW M11) zaZ;cases oo
   ·go_wp2
    clear e0 e1;go_roundw
    case rel=>exact ⟨k+1,by omega,by go_num,by rw [HO.o,HOO.o]; rfl,EW.o⟩
    case measure=>simp [intOf]; omega
   ·by_cases hd:(xl.length:Int)<=xt
    ·go_wp2
     clear e0 e1;go_roundw
     case rel=>exact ⟨k+1,by omega,by go_num,by rw [HO.o,HOO.o]; simp [hd],EW.o⟩
     case measure=>simp [intOf]; omega
    ·go_wp2
     clear e0 e1;go_roundw
     case rel=>exact ⟨k+1,by omega,by go_num,by rw [HO.o,HOO.o]; simp [hd],EW.o⟩
     case measure=>simp [intOf]; omega
  ·have hkk:k=cls.length:=by omega
   have mr:Ext w wr:=EW.o.trans he;have hG:((cls.take k).all fun c=>decide ((c.calls.length:Int)<=c.at_))=G:=by rw [hkk,List.take_length]; exact HG.o
   rw [hG];clear hG HG;go_wp2
   go_ret
   exact ⟨rfl,mr⟩

end Go.Proofs.YtdmipnnfoolelafGreat
