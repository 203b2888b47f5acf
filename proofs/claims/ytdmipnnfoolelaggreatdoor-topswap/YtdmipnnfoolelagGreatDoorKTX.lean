/- zbb of the proof, merged: UB J7 C7 M1 M2 M3. -/
import Derived.Test.YtdmipnnfoolelagGreatDoorKTA
import Derived.Test.YtdmipnnfoolelagGreatDoorKTW
import Derived.Test.YtdmipnnfoolelagGreatDoorKTS
import Derived.Test.YtdmipnnfoolelagGreatDoorKTP
import Derived.Test.YtdmipnnfoolelagGreatDoorKTR
import Derived.MapKept
import Derived.Test.YtdmipnnfoolelagGreatDoorKTO
import Derived.Test.YtdmipnnfoolelagGreatDoorKTM
import Derived.Test.YtdmipnnfoolelagGreatDoorKTN
import Derived.Handy
set_option maxHeartbeats 4000000
set_option maxRecDepth 100000

namespace Go.Proofs.YtdmipnnfoolelagGreatDoor
open Go.RowKit Go.Mk

theorem zlf {P:Program} {ops:Array Oper} {rest:List Oper} {o:Oper} {a:Act} {w:World} {Q:Exit->Act->World->Prop} (hw:Region.wanted o (yielded ops a.tmps)=false) (h:wpList P ops Q rest (a.put o.dst undef) w):wpList P ops Q (o::rest) a w:=by
 refine wpList_step fun K hK=>?_
 rw [if_neg (by rw [hw]; exact Bool.false_ne_true)]
 exact hK _ _ h

theorem zqO (hRound:zlz) (hIdle:zfN):zdS:=fun l m c u a p box plan cl w A h hgz=>by
 unfold za3
 have HRO:=zhd hRound
 have HIO:=zhd hIdle
 have GZ:=zhd hgz
 obtain ⟨ca,cc,ua,uc,aa,ac,pa,pc,xa,xc,la,lc,ka,kc,rfl,rfl,rfl,rfl,rfl,rfl,rfl⟩:=h.slices
 obtain ⟨E,HE0⟩:∃ E:Nat->Prop,Hid (∀ k,E k↔(A k/\k < w.heap.size)):=⟨_,fun _=>Iff.rfl⟩
 have H:=zhd (h.widen (B:=E) (fun k hk h=>(HE0.o k).2 ⟨h,hk⟩))
 clear h hgz hRound hIdle
 obtain ⟨SM,HSM⟩:∃ x,Hid (zba 300 m=x):=⟨_,rfl⟩
 rw [show zba 300 m=SM from HSM.o]
 have EW:=zhd (Ext.refl w)
 go_enter Tryz.func13,Tryz.ntmps13
 go_wp2_with (with_reducible refine zT ?_)
 refine zam rfl 43 (.tmp 0) rfl #[.slice ca m.store.cells.length cc,.slice ua m.store.undo.length uc,.slice aa m.store.answers.length ac,.slice pa m.store.past.length pc,I m.server.gen,.slice xa m.server.box.length xc,.bool m.server.busy,I m.server.now.client,I m.server.now.token,I m.server.now.call.kind,I m.server.now.call.name,I m.server.now.call.other,I m.server.now.call.n,.slice la m.server.plan.length lc,I m.server.says.err,I m.server.says.n,.bool m.up,I m.pause,I m.falls,.slice ka m.clients.length kc] rfl (fun b0 w1_ M1=>?_)
 have zab:=zmb M1
 replace H:=zhd (H.o.ext M1.o.ext)
 replace EW:=zet EW M1
 have zbc:Hid (¬ E b0):=fun h=>by have q:=((HE0.o _).1 h).2; have q1:=M1.o.at_; omega
 have zcO:Hid (w.heap.size<=b0):=by unfold Hid; have q1:=M1.o.at_; omega
 go_wp2_with (with_reducible refine zT ?_)
 refine zac rfl 43 zM (by kernel_rfl) (fun b1 w2_ M2=>?_)
 have zaQ:=zld zab M2
 replace zab:=zmo M2 zab
 have zad:=zmb M2
 replace H:=zhd (H.o.ext M2.o.ext)
 replace EW:=zet EW M2
 have zaB:Hid (¬ E b1):=fun h=>by have q:=((HE0.o _).1 h).2; have q1:=zaQ.o; have q2:=zcO.o; omega
 have za9:Hid (w.heap.size<=b1):=by unfold Hid; have q1:=zaQ.o; have q2:=zcO.o; omega
 go_wp2_with (with_reducible refine zT ?_)
 refine zah rfl 43 (.tmp 1) rfl b0 rfl zab za2 zaT (fun v6 H_v6=>?_)
 go_wp2_with fail
 rw [H_v6.o]
 clear H_v6
 refine (zcp m _ _ _ _ _ _ _ w2_ E H.o ((znE GZ.o).small (by decide))).to fun r w9 e9 hr=>?_
 obtain ⟨cs,rfl,hcs⟩:=zcb hr
 obtain ⟨c2,u2,a2,p2,box2,plan2,cl2,rfl,hm2⟩:=zcu hcs
 obtain ⟨ca2,cc2,ua2,uc2,aa2,ac2,pa2,pc2,xa2,xc2,la2,lc2,ka2,kc2,rfl,rfl,rfl,rfl,rfl,rfl,rfl⟩:=hm2.slices
 clear hcs hr H HE0 zab zbc
 have SC:Hid (b1 < w2_.heap.size):=(zlt zad)
 obtain ⟨E2,HE2⟩:∃ X:Nat->Prop,Hid (∀ k,X k↔(w2_.heap.size<=k/\k < w9.heap.size)):=⟨_,fun _=>Iff.rfl⟩
 have H:=zhd (hm2.widen (B:=E2) (fun k hk h=>(HE2.o k).2 ⟨h.elim False.elim id,hk⟩))
 replace zaB:Hid (¬ E2 b1):=fun h=>absurd ((HE2.o _).1 h).1 (by have q2:=SC.o; omega)
 have HIN:Hid (∀ j,E2 j->j < w9.heap.size/\(A j∨w.heap.size<=j)):=fun j h=>⟨((HE2.o _).1 h).2,.inr (by have q:=((HE2.o _).1 h).1; have q1:=za9.o; have q2:=SC.o; omega)⟩
 clear HE2 hm2 SC E
 replace zad:=zbx zad e9
 replace EW:=zhd (EW.o.trans e9)
 clear e9
 go_wp2_with (with_reducible refine zT ?_)
 refine zac rfl 43 zM (by kernel_rfl) (fun b2 w3_ M3=>?_)
 have zaW:=zld zad M3
 replace zad:=zmo M3 zad
 have zal:=zmb M3
 replace H:=zhd (H.o.ext M3.o.ext)
 replace EW:=zet EW M3
 have zbC:Hid (¬ E2 b2):=fun h=>by have q:=(HIN.o _ h).1; have q1:=M3.o.at_; omega
 have zcg:Hid (w.heap.size<=b2):=by unfold Hid; have q:=zaW.o; have q2:=za9.o; omega
 replace HIN:Hid (∀ j,E2 j->j < w3_.heap.size/\(A j∨w.heap.size<=j)):=fun j h=>⟨Nat.lt_of_lt_of_le (HIN.o j h).1 M3.o.ext.size,(HIN.o j h).2⟩
 go_wp2_with (with_reducible refine zT ?_)
 refine zaa rfl 43 (.tmp 4) (.tmp 7) rfl b2 rfl [.slice ca2 m.store.cells.length cc2,.slice ua2 m.store.undo.length uc2,.slice aa2 m.store.answers.length ac2,.slice pa2 m.store.past.length pc2,I m.server.gen,.slice xa2 m.server.box.length xc2,.bool m.server.busy,I m.server.now.client,I m.server.now.token,I m.server.now.call.kind,I m.server.now.call.name,I m.server.now.call.other,I m.server.now.call.n,.slice la2 m.server.plan.length lc2,I m.server.says.err,I m.server.says.n,.bool m.up,I m.pause,I m.falls,.slice ka2 m.clients.length kc2] (rfl) zal rfl zaT rfl (fun w4_ M4=>?_)
 replace zad:=zwl M4 zad zaW
 replace zal:=zwb M4
 replace H:=zHw M4 H zbC
 replace EW:=zwe M4 EW zcg
 replace HIN:Hid (∀ j,E2 j->j < w4_.heap.size/\(A j∨w.heap.size<=j)):=fun j h=>⟨Nat.lt_of_lt_of_le (HIN.o j h).1 (Nat.le_of_eq M4.o.size.symm),(HIN.o j h).2⟩
 go_wp2_with fail
 go_loopw [5] (fun i wr=>∃ (k:Nat) (E:Nat->Prop) (mk:Mc) (c u a p box plan cl:Value),k<=300/\i=I k/\((zba (300 - k) mk).1,(zba (300 - k) mk).2+k)=SM/\GzM l mk/\RdM E wr mk c u a p box plan cl/\(∀ j,E j->j < wr.heap.size/\(A j∨w.heap.size<=j))/\¬ E b2/\¬ E b1/\wr.heap[b2]?=some (.cells (zaM mk c u a p box plan cl).toArray 43 (0,0))/\wr.heap[b1]?=some (.cells zM 43 (0,0))/\Ext w wr) (fun i _=>300 - (intOf i).toNat)
 case atStart=>exact ⟨0,E2,m,_,_,_,_,_,_,_,Nat.zero_le _,rfl,HSM.o,GZ.o,H.o,HIN.o,zbC.o,zaB.o,zal.o,zad.o,EW.o⟩
 case round =>
  obtain ⟨k,E',mk,c',u',a',p',box',plan',cl',hk,rfl,hsm,hgz,hm,hE,n2,n1,hb2,hb1,hex⟩:=hrel
  clear zal zad H EW zbC zaB HIN GZ
  obtain ⟨ca,cc,ua,uc,aa,ac,pa,pc,xa,xc,la,lc,ka,kc,rfl,rfl,rfl,rfl,rfl,rfl,rfl⟩:=hm.slices
  have HS:=zhd hsm
  have GZ:=zhd hgz
  have H:=zhd hm
  have HIN:=zhd hE
  have zbC:=zhd n2
  have zaB:=zhd n1
  have zal:Hid (wr.heap[b2]?=some (.cells #[.slice ca mk.store.cells.length cc,.slice ua mk.store.undo.length uc,.slice aa mk.store.answers.length ac,.slice pa mk.store.past.length pc,I mk.server.gen,.slice xa mk.server.box.length xc,.bool mk.server.busy,I mk.server.now.client,I mk.server.now.token,I mk.server.now.call.kind,I mk.server.now.call.name,I mk.server.now.call.other,I mk.server.now.call.n,.slice la mk.server.plan.length lc,I mk.server.says.err,I mk.server.says.n,.bool mk.up,I mk.pause,I mk.falls,.slice ka mk.clients.length kc] 43 (0,0))):=hb2
  have zad:=zhd hb1
  have EW:=zhd hex
  clear hsm hgz hm hE n2 n1 hb2 hb1 hex
  generalize hEr:(E':Nat->Prop)=E at *
  clear hEr E'
  by_cases hlt:k < 300
  ·have b3:(k:Int) < 300:=by omega
   go_wp2_with (with_reducible refine zT ?_)
   unfold Hid
   refine zhc rfl 43 (.tmp 4) rfl b2 0 rfl zal [.slice ca mk.store.cells.length cc,.slice ua mk.store.undo.length uc,.slice aa mk.store.answers.length ac,.slice pa mk.store.past.length pc,I mk.server.gen,.slice xa mk.server.box.length xc,.bool mk.server.busy,I mk.server.now.client,I mk.server.now.token,I mk.server.now.call.kind,I mk.server.now.call.name,I mk.server.now.call.other,I mk.server.now.call.n,.slice la mk.server.plan.length lc,I mk.server.says.err,I mk.server.says.n,.bool mk.up,I mk.pause,I mk.falls,.slice ka mk.clients.length kc] rfl za2 zaT (fun vg H_vg=>?_)
   go_wp2_with fail
   rw [H_vg.o]
   clear H_vg
   refine (HIO.o mk _ _ _ _ _ _ _ wr E H.o (zpa (znE GZ.o) (by decide))).to fun r w9 e9 hr=>?_
   obtain ⟨ib,HIB⟩:∃ x,Hid (zdE mk=x):=⟨_,rfl⟩
   replace hr:r=.bool ib:=by rw [<- HIB.o]; exact hr
   subst hr
   replace HIN:Hid (∀ j,E j->j < w9.heap.size/\(A j∨w.heap.size<=j)):=fun j h=>⟨Nat.lt_of_lt_of_le (HIN.o j h).1 e9.size,(HIN.o j h).2⟩
   replace zad:=zbx zad e9
   replace zal:=zbx zal e9
   replace H:=zhd (H.o.ext e9)
   replace EW:=zhd (EW.o.trans e9)
   clear e9
   cases ib
   case true =>
    have hst:SM=(mk,k):=by rw [<- HS.o,zin _ (.inr HIB.o)]; simp
    go_wp2_with (with_reducible refine zT ?_)
    refine zah rfl 43 (.tmp 4) rfl b2 rfl zal za2 zaT (fun vf H_vf=>?_)
    go_wp2_with (with_reducible refine zT ?_)
    refine zaa rfl 43 (.tmp 2) (.tmp 19) rfl b1 rfl _ (zcv H_vf) zad rfl zaT rfl (fun w61_ M61=>?_)
    replace zad:=zwb M61
    replace zal:=zwg M61 zal zaW
    replace H:=zHw M61 H zaB
    replace EW:=zwe M61 EW za9
    go_wp2
    have z0:=zau (P:=Tryz.prog) 43 zad.o za2 (by kernel_rfl)
    refine bodyPost_ret (by simp [results,Tryz.results13,asAddr,z0]; rfl) rfl ?_
    have r1:=(H.o.widen (B:=fun k=>A k∨w.heap.size<=k) (fun k _ h=>(HIN.o k h).2)).mc
    rw [hst]
    exact ⟨_,rfl,EW.o,r1.imp fun w' h=>⟨_,rfl,h⟩⟩
   go_wp2_with (with_reducible refine zT ?_)
   refine zah rfl 43 (.tmp 4) rfl b2 rfl zal za2 zaT (fun vr H_vr=>?_)
   go_wp2_with fail
   rw [H_vr.o]
   clear H_vr
   refine (HRO.o l mk _ _ _ _ _ _ _ w9 E H.o GZ.o).to fun r w8 e8 hr=>?_
   have HS2:Hid (((zba (300 - (k+1)) (roundM mk)).1,(zba (300 - (k+1)) (roundM mk)).2+(k+1))=SM):=by
    unfold Hid
    rw [<- HS.o,show 300 - k=300 - (k+1)+1 by omega,zmH _ HIB.o]
    simp only [Prod.mk.injEq,true_and]
    omega
   have GZ2:=zhd (zmh GZ.o)
   generalize roundM mk=m2 at *
   obtain ⟨cs,rfl,hcs⟩:=zcb hr
   obtain ⟨c2,u2,a2,p2,box2,plan2,cl2,rfl,hm2⟩:=zcu hcs
   obtain ⟨ca2,cc2,ua2,uc2,aa2,ac2,pa2,pc2,xa2,xc2,la2,lc2,ka2,kc2,rfl,rfl,rfl,rfl,rfl,rfl,rfl⟩:=hm2.slices
   clear hcs hr H HS GZ HIB
   have SC:Hid (b2 < w9.heap.size):=(zlt zal)
   obtain ⟨E2,HE2⟩:∃ X:Nat->Prop,Hid (∀ k,X k↔((E k∨w9.heap.size<=k)/\k < w8.heap.size)):=⟨_,fun _=>Iff.rfl⟩
   have H:=zhd (hm2.widen (B:=E2) (fun k hk h=>(HE2.o k).2 ⟨h,hk⟩))
   replace zbC:Hid (¬ E2 b2):=fun h=>by rcases ((HE2.o _).1 h).1 with q | q; exact zbC.o q; exact absurd q (by have q2:=SC.o; omega)
   replace zaB:Hid (¬ E2 b1):=fun h=>by rcases ((HE2.o _).1 h).1 with q | q; exact zaB.o q; exact absurd q (by have q1:=zaW.o; have q2:=SC.o; omega)
   have HIN2:Hid (∀ j,E2 j->j < w8.heap.size/\(A j∨w.heap.size<=j)):=fun j h=>⟨((HE2.o _).1 h).2,by rcases ((HE2.o _).1 h).1 with q | q; exact (HIN.o j q).2; exact .inr (by have q1:=zcg.o; have q2:=SC.o; omega)⟩
   clear HE2 hm2 SC HIN
   replace zad:=zbx zad e8
   replace zal:=zbx zal e8
   replace EW:=zhd (EW.o.trans e8)
   clear e8
   go_wp2_with (with_reducible refine zT ?_)
   refine zaa rfl 43 (.tmp 4) (.tmp 16) rfl b2 rfl [.slice ca2 m2.store.cells.length cc2,.slice ua2 m2.store.undo.length uc2,.slice aa2 m2.store.answers.length ac2,.slice pa2 m2.store.past.length pc2,I m2.server.gen,.slice xa2 m2.server.box.length xc2,.bool m2.server.busy,I m2.server.now.client,I m2.server.now.token,I m2.server.now.call.kind,I m2.server.now.call.name,I m2.server.now.call.other,I m2.server.now.call.n,.slice la2 m2.server.plan.length lc2,I m2.server.says.err,I m2.server.says.n,.bool m2.up,I m2.pause,I m2.falls,.slice ka2 m2.clients.length kc2] (rfl) zal rfl zaT rfl (fun w61_ M61=>?_)
   replace zad:=zwl M61 zad zaW
   replace zal:=zwb M61
   replace H:=zHw M61 H zbC
   replace EW:=zwe M61 EW zcg
   replace HIN2:Hid (∀ j,E2 j->j < w61_.heap.size/\(A j∨w.heap.size<=j)):=fun j h=>⟨Nat.lt_of_lt_of_le (HIN2.o j h).1 (Nat.le_of_eq M61.o.size.symm),(HIN2.o j h).2⟩
   go_wp2
   go_roundw
   case rel=>exact ⟨k+1,E2,m2,_,_,_,_,_,_,_,by omega,by go_num,HS2.o,GZ2.o,H.o,HIN2.o,zbC.o,zaB.o,zal.o,zad.o,EW.o⟩
   case measure=>simp [intOf]; omega
  ·have b3:¬ (k:Int) < 300:=by omega
   have hst:SM=(mk,k):=by rw [<- HS.o,zin _ (.inl (by omega))]; simp
   go_wp2_with (with_reducible refine zT ?_)
   unfold Hid
   refine zlf rfl ?_
   go_wp2_with (with_reducible refine zT ?_)
   refine zah rfl 43 (.tmp 4) rfl b2 rfl zal za2 zaT (fun vf H_vf=>?_)
   go_wp2_with (with_reducible refine zT ?_)
   refine zaa rfl 43 (.tmp 2) (.tmp 19) rfl b1 rfl _ (zcv H_vf) zad rfl zaT rfl (fun w61_ M61=>?_)
   replace zad:=zwb M61
   replace zal:=zwg M61 zal zaW
   replace H:=zHw M61 H zaB
   replace EW:=zwe M61 EW za9
   go_wp2
   have z0:=zau (P:=Tryz.prog) 43 zad.o za2 (by kernel_rfl)
   refine bodyPost_ret (by simp [results,Tryz.results13,asAddr,z0]; rfl) rfl ?_
   have r1:=(H.o.widen (B:=fun k=>A k∨w.heap.size<=k) (fun k _ h=>(HIN.o k h).2)).mc
   rw [hst]
   exact ⟨_,rfl,EW.o,r1.imp fun w' h=>⟨_,rfl,h⟩⟩

end Go.Proofs.YtdmipnnfoolelagGreatDoor

namespace Go.Mk
open Go Go.RowKit Go.MapKept

structure Grew (g:Nat) (a w:World):Prop where
 row:a.grownBy w (some g)
 lt:g < a.heap.size
theorem Grew.refl {g:Nat} {a:World} (h:g < a.heap.size):Grew g a a:=⟨World.grownBy.refl a _,h⟩
theorem Grew.trans {g:Nat} {a b c:World} (h:Grew g a b) (e:Ext b c):Grew g a c:=⟨zaz h.row (e.grownBy _),h.lt⟩
theorem Grew.size {g:Nat} {a b:World} (h:Grew g a b):a.heap.size<=b.heap.size:=h.row.size
theorem Grew.then {g:Nat} {a b c:World} (h:Grew g a b) (e:Grew g b c):Grew g a c:=⟨zaz h.row e.row,h.lt⟩
theorem Grew.own {g b:Nat} {a w w':World} {cs:Array Value} {t:TypeId} (h:Grew g a w) (m:Wrote w w' b cs t) (hb:a.heap.size<=b):Grew g a w' :=
 ⟨⟨m.grown.os.trans h.row.os,m.grown.tape.trans h.row.tape,m.grown.output.trans h.row.output,Nat.le_trans h.row.size m.grown.size,fun k hk hne=>(m.grown.block k (Nat.lt_of_lt_of_le hk h.row.size) (fun e=>by have e2:k=b:=Option.some.inj e; omega)).trans (h.row.block k hk hne)⟩,h.lt⟩
theorem Grew.wrote {g:Nat} {a w w':World} {cs:Array Value} {t:TypeId} (h:Grew g a w) (m:Wrote w w' g cs t):Grew g a w':=⟨zaz h.row m.grown,h.lt⟩
theorem Grew.ext {g:Nat} {a b c:World} (h:Ext a b) (e:Grew g b c) (hg:a.heap.size<=g):Ext a c:=h.grown e.row (fun k hk=>by cases hk; exact hg)
theorem Grew.old {g:Nat} {a w:World} (h:Grew g a w) {k:Nat} {x:Obj} (hk:a.heap[k]?=some x) (hne:k≠g):w.heap[k]?=some x:=by
 rw [h.row.block k (Array.getElem?_eq_some_iff.1 hk).1 (fun e=>hne (Option.some.inj e))]
 exact hk
theorem Grew.rd {g:Nat} {a w:World} {A:Nat->Prop} {φ:World->Prop} (h:Grew g a w) (hr:Rd A φ a) (hg:¬ A g):Rd A φ w:=hr.grown h.row (fun k hk=>by cases hk; exact hg)
theorem zOg {w w1 w2:World} {b g:Nat} {o:Obj} (m:Hid (Made w1 w2 b o)) (e:Hid (Grew g w w1)):Hid (w.heap.size<=b):=by
 unfold Hid
 have q:=m.o.at_
 have q2:=e.o.size
 omega
section
variable {w w' a:World} {b g:Nat} {o:Obj} {cs:Array Value} {t:TypeId}
theorem yet (e:Hid (Grew g a w)) (m:Hid (Made w w' b o)):Hid (Grew g a w'):=e.o.trans m.o.ext
theorem ywe (m:Hid (Wrote w w' b cs t)) (e:Hid (Grew g a w)) (h:Hid (a.heap.size<=b)):Hid (Grew g a w'):=e.o.own m.o h.o
end

/-! ### A map from numbers to functions -/
section
variable {P:Program} {ops:Array Oper} {rest:List Oper} {o:Oper} {a:Act} {w:World} {Q:Exit->Act->World->Prop}
def zuq:Op->Bool
 | .makeMap ..=>true
 | .insert ..=>true
 | _=>false
theorem zsm (_:zuq o.op=true) (h:Hid (wpList P ops Q (o::rest) a w)):wpList P ops Q (o::rest) a w:=h
theorem zll (hg:o.guard=none) (t:TypeId) (ho:o.op=.makeMap t none) (h:∀ b w',Hid (Made w w' b (.map #[] 0))->wpList P ops Q rest (a.put o.dst (.map (some b))) w'):wpList P ops Q (o::rest) a w:=by
 refine wpList_plain hg fun K hK=>?_
 have hrun:(execOp a.eval o).run P w=.ok (.value (.map (some w.heap.size))) (w.alloc (.map #[] 0)):=by
  unfold execOp
  simp [ho,Instr.makeMap,Result.andThen]
 unfold Oper.wp
 rw [hrun,Oper.upon_value]
 exact hK _ _ (h _ _ (zmW w _))
theorem zfl (hg:o.guard=none) (t k e:TypeId) (m x v:Operand) (ho:o.op=.insert t m x v) (hm:P.underlying t=some (.map k e)) (hk:P.underlying k=some (.int .i64)) (b:Nat) (hb:a.eval m=.map (some b)) {es:Array MapEntry} {c:Nat} (hB:Hid (w.heap[b]?=some (.map es c)))
  (n:Int) (hx:a.eval x=I n) (u:Value) (hv:a.eval v=u) (hf:Instr.findNow (.int .i64) (I n) es.toList 0=some none)
  (h:∀ w',Hid (w'.heap[b]?=some (.map (es.push ⟨I n,u,c⟩) (c+1)))->w.grownBy w' (some b)->wpList P ops Q rest (a.put o.dst undef) w'):wpList P ops Q (o::rest) a w:=by
 refine wpList_plain hg fun K hK=>?_
 have hrun:(Instr.mapUpdate t (.map (some b)) (I n) u).run P w=.ok () { w with heap:=w.heap.setIfInBounds b (.map (es.push ⟨I n,u,c⟩) (c+1)) }:=by
  simp [Instr.mapUpdate,run_underlying hm,MapKept.run_getObj_map hB.o,MapKept.run_checkKey hk (show IsKey (.int .i64) (I n) from rfl),MapKept.run_findKey hk hf,MapKept.run_setObj_map _ hB.o,Result.andThen]
 unfold Oper.wp execOp
 simp only [ho,hb,hx,hv,Sem.run_bind,hrun,Sem.run_pure,Result.andThen_ok]
 refine hK _ _ (h _ (heap_set hB.o).1 ⟨rfl,rfl,rfl,by simp,fun k _ hne=>(heap_set hB.o).2 k (fun e=>hne (by rw [e]))⟩)
theorem zrN {t k e:TypeId} (hm:P.underlying t=some (.map k e)) (hk:P.underlying k=some (.int .i64)) {b:Nat} {es:Array MapEntry} {c:Nat} (hB:w.heap[b]?=some (.map es c)) (n:Int) {j:Nat} {v:Value} (hf:Instr.findNow (.int .i64) (I n) es.toList 0=some (some (j,v))) :
  (Instr.lookup t (.map (some b)) (I n) true).run P w=.ok (.tuple #[v,.bool true]) w:=by
 simp [Instr.lookup,run_underlying hm,MapKept.run_getObj_map hB,MapKept.run_checkKey hk (show IsKey (.int .i64) (I n) from rfl),MapKept.run_findKey hk hf,Result.andThen]
theorem zm0 {t k e:TypeId} (hm:P.underlying t=some (.map k e)) (hk:P.underlying k=some (.int .i64)) {b:Nat} {es:Array MapEntry} {c:Nat} (hB:w.heap[b]?=some (.map es c)) (n:Int) (hf:Instr.findNow (.int .i64) (I n) es.toList 0=some none) {z:Value} (hz:(zeroValue e).run P w=.ok z w) :
  (Instr.lookup t (.map (some b)) (I n) true).run P w=.ok (.tuple #[z,.bool false]) w:=by
 simp [Instr.lookup,run_underlying hm,MapKept.run_getObj_map hB,MapKept.run_checkKey hk (show IsKey (.int .i64) (I n) from rfl),MapKept.run_findKey hk hf,hz,Result.andThen]
end
def fnV (F:FuncId):Value:=.func (.func F) #[] #[]
end Go.Mk

namespace Go.Proofs.YtdmipnnfoolelagGreatDoor
open Go.RowKit Go.Mk

def zrr:Array MapEntry:=#[⟨I 1,fnV 83,0⟩,⟨I 2,fnV 84,1⟩,⟨I 3,fnV 85,2⟩,⟨I 4,fnV 86,3⟩]
theorem zkr (w:World):zaw Tryz.prog 70 #[] w fun r w'=>∃ b,r=.map (some b)/\w'.heap[b]?=some (.map zrr 4):=by
 unfold zaw;go_enter Tryz.func70,Tryz.ntmps70
 go_wp2_with ((with_reducible refine zsm ?_ ?_); exact rfl)
 unfold Hid;refine zll rfl 137 rfl (fun b w1 M1=>?_);have EW:Hid (Ext w w1):=M1.o.ext;have O_b:Hid (w.heap.size<=b):=by unfold Hid; have q:=M1.o.at_; omega
 have B_b:=zmb M1;clear M1;go_wp2_with ((with_reducible refine zsm ?_ ?_); exact rfl)
 unfold Hid;refine zfl rfl 137 3 135 (.tmp 1) _ _ rfl zkD zu3 b rfl B_b 1 rfl (fnV 83) rfl (by rfl) (fun w2 hb hg=>?_);replace B_b:=hb;replace EW:=zhd (EW.o.grown hg (fun k hk=>by cases hk; exact O_b.o));clear hb hg;go_wp2_with ((with_reducible refine zsm ?_ ?_); exact rfl)
 unfold Hid;refine zfl rfl 137 3 135 (.tmp 1) _ _ rfl zkD zu3 b rfl B_b 2 rfl (fnV 84) rfl (by rfl) (fun w3 hb hg=>?_);replace B_b:=hb;replace EW:=zhd (EW.o.grown hg (fun k hk=>by cases hk; exact O_b.o));clear hb hg;go_wp2_with ((with_reducible refine zsm ?_ ?_); exact rfl)
 unfold Hid;refine zfl rfl 137 3 135 (.tmp 1) _ _ rfl zkD zu3 b rfl B_b 3 rfl (fnV 85) rfl (by rfl) (fun w4 hb hg=>?_);replace B_b:=hb;replace EW:=zhd (EW.o.grown hg (fun k hk=>by cases hk; exact O_b.o));clear hb hg;go_wp2_with ((with_reducible refine zsm ?_ ?_); exact rfl)
 unfold Hid;refine zfl rfl 137 3 135 (.tmp 1) _ _ rfl zkD zu3 b rfl B_b 4 rfl (fnV 86) rfl (by rfl) (fun w5 hb hg=>?_);replace B_b:=hb;replace EW:=zhd (EW.o.grown hg (fun k hk=>by cases hk; exact O_b.o));clear hb hg;go_wp2
 go_ret
 exact ⟨_,rfl,EW.o,b,rfl,B_b.o⟩

def zuB (A:Nat->Prop) (m:Mc) (e:Int) (r:Value) (w:World):Prop:=∃ c u a p box plan cl,r=.tuple #[.agg (zaM m c u a p box plan cl).toArray,I e]/\RdM A w m c u a p box plan cl
def zjB (F:FuncId) (kind:Int):Prop:=∀ (l:List (List Cl)) (m:Mc) (k:Nat) (n:Int) (s:Nat) (B:Nat->Prop) (c u a p box plan:Value) (g:Nat) (css:List (List Value)) (w:World),OwnMc s B w m c u a p box plan g css->Gd l m k->k<=500 ->
 Calls Tryz.prog F #[.agg (zaM m c u a p box plan (.slice (some ⟨g,0,none⟩) m.clients.length m.clients.length)).toArray,I n] w fun e w'=>∃ r m',e=.returned r/\Grew g w w'/\((doM m kind n).2=0->m'=(doM m kind n).1)/\zuB (fun k=>(B k∨k=g)∨w.heap.size<=k) m' (doM m kind n).2 r w'
theorem OwnMc.cut {s:Nat} {B:Nat->Prop} {w:World} {m:Mc} {c u a p box plan:Value} {g:Nat} {css:List (List Value)} (h:OwnMc s B w m c u a p box plan g css):OwnMc s (fun k=>B k/\k < w.heap.size) w m c u a p box plan g css :=
 ⟨fun k hk=>h.lo k hk.1,h.at_,fun hk=>h.off hk.1,h.rd.widen fun _ hk hb=>⟨hb,hk⟩,h.row⟩
theorem OwnMc.ext {s:Nat} {B:Nat->Prop} {w w':World} {m:Mc} {c u a p box plan:Value} {g:Nat} {css:List (List Value)} (h:OwnMc s B w m c u a p box plan g css) (he:Ext w w'):OwnMc s B w' m c u a p box plan g css:=⟨h.lo,h.at_,h.off,h.rd.ext he,zai h.row he⟩
theorem OwnMc.gsize {s:Nat} {B:Nat->Prop} {w:World} {m:Mc} {c u a p box plan:Value} {g:Nat} {css:List (List Value)} (h:OwnMc s B w m c u a p box plan g css):g < w.heap.size:=(h.row.lt g rfl).2

theorem zfY (m:Mc) (c u a p box plan:Value) (cl:Option Addr) (cc:Nat) (n:Int) (w:World) :
  zaw Tryz.prog 99 #[.agg (zaM m c u a p box plan (.slice cl m.clients.length cc)).toArray,I n] w fun r _=>r=.bool (decide (0<=n) && decide (n < (m.clients.length:Int))):=by
 unfold zaw;have EW:=zhd (Ext.refl w);obtain ⟨⟨sc,su,sa,sp⟩,⟨gen,bl,busy,⟨nc,nt,⟨nk,na,no,nn⟩⟩,pl,⟨se,sn⟩⟩,up,pause,falls,cls⟩:=m;simp only [zaM] at *;obtain ⟨BV,hBV⟩:∃ b,(decide (0<=n) && decide (n < (cls.length:Int)))=b:=⟨_,rfl⟩;rw [hBV];have HBV:=zhd hBV;clear hBV;go_enter Tryz.func99,Tryz.ntmps99
 go_wp2_with (with_reducible refine zT ?_)
 refine zam rfl 43 (.tmp 0) rfl #[c,u,a,p,I gen,box,.bool busy,I nc,I nt,I nk,I na,I no,I nn,plan,I se,I sn,.bool up,I pause,I falls,.slice cl cls.length cc] rfl (fun b0 w1_ M1=>?_);have zab:=zmb M1;have c19:=zae (i:=19) zab.o rfl;replace EW:=zet EW M1;by_cases h0:0<=n
 ·by_cases h1:n < (cls.length:Int)
  ·have hv:BV=true:=by rw [<- HBV.o,decide_eq_true h0,decide_eq_true h1]; rfl
   subst hv;go_wp2
   go_ret
   first | exact ⟨_,rfl,EW.o,rfl⟩ | exact ⟨rfl,EW.o⟩ | (refine ⟨?_,EW.o⟩; simp; omega) | (refine ⟨?_,EW.o⟩; simp <;> omega)
  ·have hv:BV=false:=by rw [<- HBV.o,decide_eq_true h0,decide_eq_false h1]; rfl
   subst hv;go_wp2
   go_ret
   first | exact ⟨_,rfl,EW.o,rfl⟩ | exact ⟨rfl,EW.o⟩ | (refine ⟨?_,EW.o⟩; simp; omega) | (refine ⟨?_,EW.o⟩; simp <;> omega)
 ·have hv:BV=false:=by rw [<- HBV.o,decide_eq_false h0]; rfl
  subst hv;go_wp2
  go_ret
  first | exact ⟨_,rfl,EW.o,rfl⟩ | exact ⟨rfl,EW.o⟩ | (refine ⟨?_,EW.o⟩; simp; omega) | (refine ⟨?_,EW.o⟩; simp <;> omega)

open Go.RowKit Go.Mk

theorem GoodC.small {c:Cn} (h:GoodC c):zlv c:=⟨by have:=h.calls.1; omega,by have:=h.box; omega,h.bytes,by have:=h.got; omega⟩

theorem zqf (v:Value) (xs:List UInt8) (w:World) (hv:za4 w v xs) (hr:xs.length<=140737488355328) :
  zaw Tryz.prog 143 #[v] w fun r w'=>w'.ownsRow w.heap.size 5 1 r xs.length (xs.map U):=by
 unfold zaw;obtain ⟨i0,hi,hz0,hz1,hz2⟩:=info_parts Tryz.infoByte;have HV:=zhd hv;obtain ⟨hlen,ao,cap,rfl,h1,h2,h0,h3⟩:=hv;clear hlen h2 h3;cases ao with
 | none =>
  have hc:=h0 rfl;subst hc;obtain rfl:xs=[]:=List.eq_nil_of_length_eq_zero (by omega);clear h0 h1 hi hz0 hz1 hz2;have qn:∀ w:World,(binOp .eql 70 (.slice none 0 0) (.slice none 0 0)).run Tryz.prog w=.ok (.bool true) w:=fun w=>run_eql_nil_slice w 70 5 none 0 0 0 0 zpT;go_enter Tryz.func143,Tryz.ntmps143
  go_wp2
  go_ret
  exact ⟨_,rfl,Ext.refl _,World.ownsRow_nil _ _ _ _⟩
 | some ad =>
  clear h0 h1;have HI:=zhd hi;clear hi
  have qn:∀ w:World,(binOp .eql 70 (.slice (some ad) xs.length cap) (.slice none 0 0)).run Tryz.prog w=.ok (.bool false) w:=fun w=>by
   simp only [binOp];simp [Op.equal,Op.maxDepth,Lib.run_equalIn_slice_nil w 9999 70 5 (some ad) xs.length cap 0 0 zpT]
  go_enter Tryz.func143,Tryz.ntmps143
  go_wp2_with (at_builtin; refine zb7 ?_)
  unfold Hid;refine zgU rfl (.tmp 5) (.tmp 6) 70 rfl w.heap.size 5 i0 (.int .u8 0) 1 1 zpT HI.o hz0 hz1 hz2 rfl (by decide) _ 0 [] rfl (zsM #[] 0 (Nat.le_refl _) (by decide) rfl) (.slice (some ad) xs.length cap) rfl xs.length (xs.map U) (HV.o.ext ((Ext.refl w).alloc _)) (fun u hu=>by obtain ⟨x,_,rfl⟩:=List.mem_map.1 hu; rfl) (by omega) (by decide) (by simp) ?_;intro v7 w2 ho e2;simp only [Nat.zero_add,List.nil_append] at ho;go_wp2
  go_ret
  exact ⟨_,rfl,((Ext.refl w).alloc _).trans e2,ho⟩

theorem OwnCn.rd {base s:Nat} {w:World} {calls box got:Value} {c:Cn} {A:Nat->Prop} (h:OwnCn base w calls box got c) (hs:s<=base):Rd (fun k=>A k∨s<=k) (fun w=>zcG w [calls,I c.at_,.bool c.sent,I c.gen,box,got] c) w :=
 zgA (c:=c) ((zfV h.calls).widen fun _ _ h=>.inr (Nat.le_trans hs h)) (h.box.rd fun _ h _=>.inr (Nat.le_trans hs h)) ((zhQ h.got).widen fun _ _ h=>.inr (Nat.le_trans hs h))

theorem znn (c:Cn) (calls box got bv:Value) (b:List UInt8) (w:World) (A:Nat->Prop) (hc:Rd A (fun w=>zaj 4 zbX w calls c.calls) w) (hb:Rd A (fun w=>zaj 1 zcI w box c.box) w) (hg:Rd A (fun w=>zaj 2 zeT w got c.got) w) (hv:Rd A (fun w=>za4 w bv b) w) (hgd:GoodC c) (hbl:b.length<=140737488355328) :
  za3 Tryz.prog 125 #[.agg #[calls,I c.at_,.bool c.sent,I c.gen,box,got],bv] w A (fun r w'=>Agg zcG (zcE c b) r w'):=by
 unfold za3;have HS:=zhd hgd.small;have HBX:=zhd hgd.box;have HBL:=zhd hbl;clear hgd hbl;obtain ⟨xa,xc,rfl⟩:=zaf hb.o;obtain ⟨ka,kc,rfl⟩:=zaf hc.o;obtain ⟨ga,gc,rfl⟩:=zaf hg.o;obtain ⟨va,vc,rfl⟩:=zao hv.o;have H1:=zhd hc.o;have H2:=zhd hb.o;have H3:=zhd hg.o;have HV:=zhd hv.o;clear hb hc hg hv;have EW:=zhd (Ext.refl w);obtain ⟨i0,hi,hz0,hz1,hz2⟩:=info_parts Tryz.infoBs;have HI:=zhd hi;clear hi;have hX:zcE c b=if c.box.length < 3 then { c with box:=c.box++[b] } else c:=rfl;rw [hX];clear hX;by_cases h3:c.box.length < 3
 case neg =>
  rw [if_neg h3];have h3i:¬ ((c.box.length:Int) < 3):=by omega
  clear h3;go_enter Tryz.func125,Tryz.ntmps125
  go_wp2_with (with_reducible refine zT ?_)
  refine zam rfl 49 (.tmp 0) rfl #[.slice ka c.calls.length kc,I c.at_,.bool c.sent,I c.gen,.slice xa c.box.length xc,.slice ga c.got.length gc] rfl (fun b0 w1_ M1=>?_);have zab:=zmb M1;have zcO:Hid (w.heap.size<=b0):=by unfold Hid; have q:=M1.o.at_; omega
  go_wp2_with (with_reducible refine zT ?_)
  refine zac rfl 49 zC (by kernel_rfl) (fun b1 w2_ M2=>?_);have zaQ:=zld zab M2;have zad:=zmb M2;have za9:Hid (w.heap.size<=b1):=by unfold Hid; have q:=zaQ.o; have q2:=zcO.o; omega
  go_wp2_with (with_reducible refine zT ?_)
  replace zab:=zmo M2 zab;refine zah rfl 49 (.tmp 2) rfl b0 rfl zab zcK zcm (fun v6 H_v6=>?_);go_wp2_with fail
  rw [show _=Value.agg #[.slice ka c.calls.length kc,I c.at_,.bool c.sent,I c.gen,.slice xa c.box.length xc,.slice ga c.got.length gc] from H_v6.o];clear H_v6;replace EW:=zet (zet EW M1) M2;refine (zcB c _ _ _ w2_ (H1.o.ext zbl EW.o) (H2.o.ext zdK EW.o) (H3.o.ext zf9 EW.o) HS.o).to fun r wo eo hr=>?_;obtain ⟨kg,xg,gg,rfl,ho⟩:=hr;have OPa:=zhd (zaL (b2:=w.heap.size) ho.calls EW.o.size);have OB:=zhd (ho.box.low (b2:=w.heap.size) EW.o.size);have OPg:=zhd (zaL (b2:=w.heap.size) ho.got EW.o.size);clear ho;replace zab:=zbx zab eo;replace zad:=zbx zad eo;replace EW:=zhd (EW.o.trans eo);clear eo;go_wp2_with (with_reducible refine zT ?_)
  refine zac rfl 49 zC (by kernel_rfl) (fun b2 w3_ M3=>?_);have zbt:=zld zab M3;have zaW:=zld zad M3;have zal:=zmb M3;have zcg:Hid (w.heap.size<=b2):=by unfold Hid; have q:=zbt.o; have q2:=zcO.o; omega
  go_wp2_with (with_reducible refine zT ?_)
  refine zaa rfl 49 (.tmp 5) (.tmp 7) rfl b2 rfl [.slice (some ⟨kg,0,none⟩) c.calls.length c.calls.length,I c.at_,.bool c.sent,I c.gen,.slice (some ⟨xg,0,none⟩) c.box.length c.box.length,.slice (some ⟨gg,0,none⟩) c.got.length c.got.length] (rfl) zal rfl zcm rfl (fun w4_ M4=>?_);replace OPa:=zhd (zai OPa.o M3.o.ext);replace OPa:=zhd (OPa.o.kept M4.o.grown (.inr (zaH OPa.o zal.o (by decide))));replace OPg:=zhd (zai OPg.o M3.o.ext);replace OPg:=zhd (OPg.o.kept M4.o.grown (.inr (zaH OPg.o zal.o (by decide))));replace OB:=zhd ((zhd (OB.o.ext M3.o.ext)).o.kept M4.o.grown zal.o (by decide) (by decide));replace zal:=zwb M4;replace zab:=zwl M4 (zmo M3 zab) zbt;have c4:=zae (i:=4) zab.o rfl;go_wp2_with (with_reducible refine zT ?_)
  clear c4 h3i;refine zah rfl 49 (.tmp 5) rfl b2 rfl zal zcK zcm (fun v19 H_v19=>?_);go_wp2_with (with_reducible refine zT ?_)
  replace zad:=zwl M4 (zmo M3 zad) zaW;refine zaa rfl 49 (.tmp 4) (.tmp 19) rfl b1 rfl _ (zcv H_v19) zad rfl zcm rfl (fun w5_ M5=>?_);replace OPa:=zhd (OPa.o.kept M5.o.grown (.inr (zaH OPa.o zad.o (by decide))));replace OPg:=zhd (OPg.o.kept M5.o.grown (.inr (zaH OPg.o zad.o (by decide))));replace OB:=zhd (OB.o.kept M5.o.grown zad.o (by decide) (by decide));replace zad:=zwb M5;go_wp2
  have z0:=zau (P:=Tryz.prog) 49 zad.o zcK (by kernel_rfl);refine bodyPost_ret (by simp [results,Tryz.results125,asAddr,z0,Act.put]; rfl) rfl ?_;replace EW:=zwe M5 (zwe M4 (zet EW M3) zcg) za9;exact ⟨_,rfl,EW.o,zcM ((⟨OPa.o,OB.o,OPg.o⟩:OwnCn _ _ _ _ _ _).rd (Nat.le_refl _))⟩
 rw [if_pos h3];have h3i:(c.box.length:Int) < 3:=by omega
 clear h3;go_enter Tryz.func125,Tryz.ntmps125
 go_wp2_with (with_reducible refine zT ?_)
 refine zam rfl 49 (.tmp 0) rfl #[.slice ka c.calls.length kc,I c.at_,.bool c.sent,I c.gen,.slice xa c.box.length xc,.slice ga c.got.length gc] rfl (fun b0 w1_ M1=>?_);have zab:=zmb M1;have zcO:Hid (w.heap.size<=b0):=by unfold Hid; have q:=M1.o.at_; omega
 go_wp2_with (with_reducible refine zT ?_)
 refine zac rfl 49 zC (by kernel_rfl) (fun b1 w2_ M2=>?_);have zaQ:=zld zab M2;have zad:=zmb M2;have za9:Hid (w.heap.size<=b1):=by unfold Hid; have q:=zaQ.o; have q2:=zcO.o; omega
 go_wp2_with (with_reducible refine zT ?_)
 replace zab:=zmo M2 zab;refine zah rfl 49 (.tmp 2) rfl b0 rfl zab zcK zcm (fun v6 H_v6=>?_);go_wp2_with fail
 rw [show _=Value.agg #[.slice ka c.calls.length kc,I c.at_,.bool c.sent,I c.gen,.slice xa c.box.length xc,.slice ga c.got.length gc] from H_v6.o];clear H_v6;replace EW:=zet (zet EW M1) M2;refine (zcB c _ _ _ w2_ (H1.o.ext zbl EW.o) (H2.o.ext zdK EW.o) (H3.o.ext zf9 EW.o) HS.o).to fun r wo eo hr=>?_;obtain ⟨kg,xg,gg,rfl,ho⟩:=hr;have OPa:=zhd (zaL (b2:=w.heap.size) ho.calls EW.o.size);have OB:=zhd (ho.box.low (b2:=w.heap.size) EW.o.size);have OPg:=zhd (zaL (b2:=w.heap.size) ho.got EW.o.size);clear ho;replace zab:=zbx zab eo;replace zad:=zbx zad eo;replace EW:=zhd (EW.o.trans eo);clear eo;go_wp2_with (with_reducible refine zT ?_)
 refine zac rfl 49 zC (by kernel_rfl) (fun b2 w3_ M3=>?_);have zbt:=zld zab M3;have zaW:=zld zad M3;have zal:=zmb M3;have zcg:Hid (w.heap.size<=b2):=by unfold Hid; have q:=zbt.o; have q2:=zcO.o; omega
 go_wp2_with (with_reducible refine zT ?_)
 refine zaa rfl 49 (.tmp 5) (.tmp 7) rfl b2 rfl [.slice (some ⟨kg,0,none⟩) c.calls.length c.calls.length,I c.at_,.bool c.sent,I c.gen,.slice (some ⟨xg,0,none⟩) c.box.length c.box.length,.slice (some ⟨gg,0,none⟩) c.got.length c.got.length] (rfl) zal rfl zcm rfl (fun w4_ M4=>?_);replace OPa:=zhd (zai OPa.o M3.o.ext);replace OPa:=zhd (OPa.o.kept M4.o.grown (.inr (zaH OPa.o zal.o (by decide))));replace OPg:=zhd (zai OPg.o M3.o.ext);replace OPg:=zhd (OPg.o.kept M4.o.grown (.inr (zaH OPg.o zal.o (by decide))));replace OB:=zhd ((zhd (OB.o.ext M3.o.ext)).o.kept M4.o.grown zal.o (by decide) (by decide));replace zal:=zwb M4;replace zab:=zwl M4 (zmo M3 zab) zbt;have c4:=zae (i:=4) zab.o rfl;go_wp2_with fail
 clear c4 h3i;have c1:=zae (i:=4) zal.o rfl;have hcw:=c1;replace zad:=zwl M4 (zmo M3 zad) zaW;replace EW:=zwe M4 (zet EW M3) zcg;refine zap 7 [none,none,none,some (.inr (fun r wx=>wx.ownsRow w.heap.size 5 1 r b.length (b.map U))),some (.inr (fun r wx=>∃ ev,Row wx 1 r 1 [ev]/\ev.oneCell'=true/\wx.ownsRow w.heap.size 5 1 ev b.length (b.map U))),some (.inr (fun r wx=>zcH w.heap.size wx r (c.box++[b]))),none] (by kernel_rfl) (by kernel_rfl) ?_ ?_
 ·exact ⟨trivial,trivial,trivial,zev _ _ _ _ _,fun _ _ _ he ⟨ev,h1,h2,h3⟩=>⟨ev,h1.ext he,h2,zai h3 he⟩,ziR _ _,trivial,trivial⟩
 (refine zat (fun K hK=>?_); go_simp; first | refine hK _ ?_ | refine ⟨(fun h=>by cases h),hK _ ?_⟩; clear hK K)
 refine zaK (.slice (some ⟨xg,0,none⟩) c.box.length c.box.length) rfl (fun w' hw'=>by have q0:=hw'.cell hcw; go_simp) ?_;refine zan fun K h=>?_; go_simp; refine h _ ?_; clear h K;(refine zat (fun K hK=>?_); go_simp; first | refine hK _ ?_ | refine ⟨(fun h=>by cases h),hK _ ?_⟩; clear hK K)
 refine zbq _ rfl (fun w' hw' hk=>?_) (fun v15=>?_)
 ·have hg:=(zqf _ b w' (HV.o.ext (EW.o.trans hw')) HBL.o).mono (fun r wx _ h=>zaL (b2:=w.heap.size) h (Nat.le_trans EW.o.size hw'.size));clear hk;unfold za0;go_simp
  exact ⟨Ext.refl _,hg⟩
 refine zan fun K h=>?_; go_simp; refine h _ ?_; clear h K;refine zbq _ rfl (fun w' hw' hk=>?_) (fun v16=>?_)
 ·have h17:w'.ownsRow w.heap.size 5 1 v15 b.length (b.map U):=hk 15 (by decide);obtain ⟨ea,ec,rfl⟩:=zaD h17;clear hk;unfold za0;go_simp
  exact ⟨(Ext.refl _).alloc _,_,Row.of_owns (World.ownsRow_lit (base:=0) (size:=1) w' _ 1 (Nat.zero_le _) (by decide) rfl),rfl,h17.alloc _⟩
 refine zan fun K h=>?_; go_simp; refine h _ ?_; clear h K;refine zbq _ rfl (fun w' hw' hk=>?_) (fun v17=>?_)
 ·obtain ⟨ev,h1,h2,h3⟩:∃ ev,Row w' 1 v16 1 [ev]/\ev.oneCell'=true/\w'.ownsRow w.heap.size 5 1 ev b.length (b.map U):=hk 16 (by decide);obtain ⟨evs,hl,hr1,hr2⟩:=(OB.o.ext hw').list;obtain ⟨vv,ww,hrun,hoo,hee⟩:=zdZ (P:=Tryz.prog) w' w.heap.size 31 31 70 i0 _ 1 24 zul HI.o hz0 hz1 hz2 rfl (by decide) (.slice (some ⟨xg,0,none⟩) c.box.length c.box.length) c.box.length evs ⟨xg,rfl,hr1⟩ v16 1 [ev] h1 (fun u hu=>by rw [List.mem_singleton.1 hu]; exact h2) (by have:=HBX.o; omega) (by decide) (Nat.le_trans EW.o.size hw'.size);exact zhr rfl rfl rfl hrun hee (zcH.snoc (fun i x hx=>by obtain ⟨e2,q1,q2⟩:=hr2 i x hx; exact ⟨e2,q1,zai q2 hee⟩) hl hoo (zai h3 hee))
 refine zan fun K h=>?_; go_simp; refine h _ ?_; clear h K;(refine zat (fun K hK=>?_); go_simp; first | refine hK _ ?_ | refine ⟨(fun h=>by cases h),hK _ ?_⟩; clear hK K)
 refine za5 ?_;intro w5 e5 hF;have ob:zcH w.heap.size w5 v17 (c.box++[b]):=hF 17;obtain ⟨na,nc,en⟩:=ob.slice;rw [show (c.box++[b]).length=c.box.length+1 by simp] at en;subst en;have OC:=zhd ob;clear hF ob hcw c1;replace zab:=zbx zab e5;replace zad:=zbx zad e5;replace zal:=zbx zal e5;replace OPa:=zhd (zai OPa.o e5);replace OB:=zhd (OB.o.ext e5);replace OPg:=zhd (zai OPg.o e5);replace EW:=zhd (EW.o.trans e5);clear e5;refine zfD ?_;refine zaq rfl 31 (.tmp 18) (.tmp 17) rfl b2 4 rfl [.slice na (c.box.length+1) nc] (rfl) zal rfl zqR rfl [.slice (some ⟨kg,0,none⟩) c.calls.length c.calls.length,I c.at_,.bool c.sent,I c.gen,.slice na (c.box.length+1) nc,.slice (some ⟨gg,0,none⟩) c.got.length c.got.length] rfl (fun w5_ M5=>?_);replace OPa:=zhd (OPa.o.kept M5.o.grown (.inr (zaH OPa.o zal.o (by decide))));replace OPg:=zhd (OPg.o.kept M5.o.grown (.inr (zaH OPg.o zal.o (by decide))));replace OB:=zhd (OB.o.kept M5.o.grown zal.o (by decide) (by decide));replace OC:=zhd (OC.o.kept M5.o.grown zal.o (by decide) (by decide));replace zal:=zwb M5;go_wp2_with (with_reducible refine zT ?_)
 refine zah rfl 49 (.tmp 5) rfl b2 rfl zal zcK zcm (fun v19 H_v19=>?_);go_wp2_with (with_reducible refine zT ?_)
 replace zad:=zwl M5 zad zaW;refine zaa rfl 49 (.tmp 4) (.tmp 19) rfl b1 rfl _ (zcv H_v19) zad rfl zcm rfl (fun w6_ M6=>?_);replace OPa:=zhd (OPa.o.kept M6.o.grown (.inr (zaH OPa.o zad.o (by decide))));replace OPg:=zhd (OPg.o.kept M6.o.grown (.inr (zaH OPg.o zad.o (by decide))));replace OB:=zhd (OB.o.kept M6.o.grown zad.o (by decide) (by decide));replace OC:=zhd (OC.o.kept M6.o.grown zad.o (by decide) (by decide));replace zad:=zwb M6;go_wp2
 have z0:=zau (P:=Tryz.prog) 49 zad.o zcK (by kernel_rfl);refine bodyPost_ret (by simp [results,Tryz.results125,asAddr,z0,Act.put]; rfl) rfl ?_;replace EW:=zwe M6 (zwe M5 EW zcg) za9;exact ⟨_,rfl,EW.o,zcM ((⟨OPa.o,OC.o,OPg.o⟩:OwnCn _ _ _ _ _ { c with box:=c.box++[b] }).rd (Nat.le_refl _))⟩

open Go.RowKit Go.Mk

theorem zdU (v:Value) (n:Int) (w:World) :
  Calls Tryz.prog 173 #[v,I n] w fun e w'=>e=.returned (.tuple #[v,.agg #[I 0,I n]])/\Ext w w':=by
 go_enter Tryz.func173,Tryz.ntmps173
 go_wp2
 go_returns
 exact ⟨rfl,(Ext.refl w).alloc _⟩

theorem zej (v:Value) (n:Int) (w:World) :
  Calls Tryz.prog 171 #[v,I n] w fun e w'=>e=.returned (.tuple #[v,.agg #[I n,I 0]])/\Ext w w':=by
 go_enter Tryz.func171,Tryz.ntmps171
 go_wp2
 go_returns
 exact ⟨rfl,(Ext.refl w).alloc _⟩

def zei (l:List (Int×Int)) (name:Int):Int:=if at1 l name < l.length then (at1 l name:Int) else -1

theorem zeu (v:Value) (l:List (Int×Int)) (name:Int) (w:World) (hv:zar w v l) :
  Calls Tryz.prog 175 #[v,I name] w fun e w'=>e=.returned (I (zei l name))/\Ext w w':=by
 obtain ⟨ao,cap,rfl,h1,h2,h3⟩:=hv.form;unfold maxLen at h2;clear hv;go_enter Tryz.func175,Tryz.ntmps175
 go_wp2
 go_loopw [9] (fun i wr=>∃ k:Nat,k<=l.length/\i=I k/\(∀ j,j < k->(l.getD j (0,0)).1≠name)/\Ext w wr) (fun i _=>l.length - (intOf i).toNat)
 case atStart=>exact ⟨0,by omega,rfl,fun j hj=>by omega,Ext.refl w⟩
 case round =>
  obtain ⟨k,hk,rfl,hf,he⟩:=hrel;have HF:Hid (∀ j,j < k->(l.getD j (0,0)).1≠name):=hf;clear hf;by_cases hlt:k < l.length
  ·obtain ⟨b,off,rfl,hc1,hc2⟩:=h3 k hlt;clear h3;have hd1:=he.cell hc1;have hd2:=he.cell hc2;clear hc1 hc2;generalize hp:l.getD k (0,0)=p at hd1 hd2;have HP:Hid (l.getD k (0,0)=p):=hp;clear hp;obtain ⟨at_,n⟩:=p;simp only [] at hd1 hd2;by_cases hn:at_=name
   ·have hb:(at_ == name)=true:=by simp [hn]
    have HN:Hid (at_=name):=hn;clear hn;go_wp2
    go_ret
    refine ⟨zec ?_,he.alloc _⟩;have:=zn5 hlt (by rw [HP.o]; exact HN.o) HF.o;unfold zei;rw [this,if_pos hlt]
   ·have hb:(at_ == name)=false:=by simpa using hn
    have HN:Hid (at_≠name):=hn;clear hn;go_wp2
    go_roundw
    case rel =>
     refine ⟨k+1,by omega,by go_num,fun j hj=>?_,he.alloc _⟩;by_cases hjk:j < k
     ·exact HF.o j hjk
     ·rw [show j=k by omega,HP.o]; exact HN.o
    case measure=>simp [intOf]; omega
  ·go_wp2
   go_ret
   refine ⟨zec ?_,he⟩;have:=zjm (l:=l) (name:=name) (fun j hj=>HF.o j (by omega));unfold zei;rw [if_neg (by omega)]

theorem zkm {P:Program} (w:World) (t ty e:TypeId) (hu:P.underlying t=some (.slice e)) (hsz:(P.info? e).map (·.size)=some 2) (base g n:Nat) (v:Value) (cs old:List Value)
  (hown:w.ownsRow base e 2 (.slice (some ⟨g,0,none⟩) n n) n old) (hv:Row w 2 v n cs) (h1:∀ u ∈ cs,u.oneCell'=true) :
  ∃ w',(Builtin.copy_ #[t,t] ty #[.slice (some ⟨g,0,none⟩) n n,v]).run P w=.ok (goInt n) w'/\w'.ownsRow base e 2 (.slice (some ⟨g,0,none⟩) n n) n cs/\w.grownBy w' (some g):=by
 obtain ⟨hl,ao,cap,rfl,hc,hm,_,hcell⟩:=hv
 obtain ⟨ho,ho'⟩:=hown
 rcases ho' with ⟨h,_⟩ | ⟨g',cap',cur,h,hb,hg,hn,hm',hs,ht⟩
 ·simp at h
 simp only [Value.slice.injEq,Option.some.injEq,Addr.mk.injEq,and_true,true_and] at h
 obtain ⟨rfl,rfl⟩:=h
 cases hq:P.info? e with
 | none=>simp [hq] at hsz
 | some i =>
 have hi:i.size=2:=by simpa [hq] using hsz
 by_cases h0:n=0
 ·subst h0
  have:cs=[]:=List.eq_nil_of_length_eq_zero (by simpa using hl)
  subst this
  refine ⟨w,?_,⟨rfl,.inr ⟨g,0,cur,rfl,hb,hg,Nat.le_refl _,hm',by simpa using hs,by simp⟩⟩,World.grownBy.refl _ _⟩
  cases ao <;> simp [Builtin.copy_,run_underlying hu,Builtin.lenOf,Builtin.firstCells,sizeOf,typeInfo,hq,storeCells,loadCells,loadCellsFrom]
 ·have hne:cs≠[]:=by intro e; subst e; simp at hl; omega
  obtain ⟨c0,hc0⟩:∃ c,cs[0]?=some c:=by cases cs with | nil=>exact absurd rfl hne | cons c _=>exact ⟨c,rfl⟩
  obtain ⟨b,off,rfl,_⟩:=hcell 0 c0 hc0
  have hload:=run_loadCells_list (P:=P) w ⟨b,off,none⟩ cs (fun j u hj=>by
   obtain ⟨b',off',e',hc'⟩:=hcell j u hj
   simp only [Option.some.injEq,Addr.mk.injEq,and_true] at e'
   obtain ⟨rfl,rfl⟩:=e'
   rw [add_plain]; exact hc')
  have hst:=run_storeCells_at P g 0 e cs 0 cur w hg (by simp; omega) h1
  rw [hl] at hload
  refine ⟨_,by simp [Builtin.copy_,run_underlying hu,Builtin.lenOf,Builtin.firstCells,sizeOf,typeInfo,hq,hi,hload,hst]; rfl,⟨hl,.inr ⟨g,n,_,rfl,hb,setRow_heap w g cur _ e _ hg,Nat.le_refl _,hm',?_,?_⟩⟩,⟨rfl,rfl,rfl,by simp [World.setRow],fun k _ hk=>setRow_other w g k _ (fun e=>hk (by simp [e]))⟩⟩
  ·simp; omega
  ·simp [<- hl]

open Go.RowKit Go.Mk

theorem zrK (v:Value) (l:List (Int×Int)) (w:World) (hv:zar w v l) (hr:l.length * 16<=140737488355328) :
  Calls Tryz.prog 157 #[v] w fun e w'=>e=.returned (.slice (some ⟨w.heap.size,0,none⟩) l.length l.length)/\w'.ownsRow w.heap.size 52 2 (.slice (some ⟨w.heap.size,0,none⟩) l.length l.length) l.length (zaC l)/\Ext w w':=by
 obtain ⟨i0,hi,hz0,hz1,hz2⟩:=info_parts Tryz.infoWrite2;obtain ⟨hlen,ao,cap,rfl,h1,h2,h0,h3⟩:=hv;unfold maxLen at h2;go_enter Tryz.func157,Tryz.ntmps157
 go_wp2_with (at_make; refine wpList_make_full _ rfl _ _ 26 rfl w.heap.size 52 i0 (.agg #[.int .i64 0,.int .i64 0]) 2 zj2 hi hz0 hz1 .i64 .i64 _ _ l.length rfl rfl rfl rfl (by rw [hz2]; omega) (by unfold maxLen; omega) (Nat.le_refl _) ?_; intro w1 hown hgrow)
 have he1:Ext w w1:=(Ext.refl w).grown hgrow (fun k hk=>by cases hk);obtain ⟨w2,hrun,hown2,hgrow2⟩:=zkm (P:=Tryz.prog) w1 26 3 52 zj2 Tryz.infoWriteSz w.heap.size w.heap.size l.length _ (zaC l) _ hown (Row.ext ⟨hlen,ao,cap,rfl,h1,h2,h0,h3⟩ he1) (zdf l);have he2:Ext w w2:=he1.grown hgrow2 (fun k hk=>by cases hk; exact Nat.le_refl _);rw [hrun];clear hrun hown hgrow hgrow2 he1 h3;go_wp2
 go_ret
 exact ⟨rfl,hown2,he2⟩

end Go.Proofs.YtdmipnnfoolelagGreatDoor
