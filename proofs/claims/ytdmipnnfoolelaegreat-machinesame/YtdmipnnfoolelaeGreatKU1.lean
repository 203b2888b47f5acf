/- Texts of the proof, merged: G4 N10. -/
import Derived.Test.YtdmipnnfoolelaeGreatKUA
import Derived.Test.YtdmipnnfoolelaeGreatKUZ
import Derived.Test.YtdmipnnfoolelaeGreatKU0
import Derived.Test.YtdmipnnfoolelaeGreatKUH
import Derived.Test.YtdmipnnfoolelaeGreatKUW
set_option maxHeartbeats 2000000
set_option maxRecDepth 100000

namespace Go.Proofs.YtdmipnnfoolelaeGreat
open Go.RowKit Go.Mk

theorem zoG {l:List (List Cl)} (hl:zbD l) {m:Mc} {ks:List Nat} {bz:Option Nat} (h:MInv l m ks bz) {k:Nat} (hs:SizeM m k) (hk:k<=1000):zhR m:=by
 have h1:=h.cells
 have h2:=hs.undo
 have h3:=hs.answers
 have h4:=hs.past
 have h5:=hs.box
 refine ⟨⟨by omega,by omega,by omega,by omega⟩,⟨by omega,fun b hb=>?_,?_⟩,by rw [h.nc]; have:=hl.1; omega,fun c hc=>?_⟩
 ·rw [h.box] at hb
  obtain ⟨k,_,rfl⟩:=List.mem_map.1 hb
  exact Nat.le_trans (Nat.le_of_eq rfl) (by decide:(10:Nat)<=140737488355328)
 ·cases hz:bz with
  | none=>rw [h.idle hz]; exact Nat.zero_le _
  | some i=>have:=(h.work i hz).2.2.2.2; omega
 ·obtain ⟨i,hi⟩:=List.mem_iff_getElem?.1 hc
  have hci:=h.clients i c hi
  have h6:=hs.each c hc
  refine ⟨?_,by omega,fun b hb=>?_,by omega⟩
  ·rw [hci.calls,List.getD_eq_getElem?_getD]
   cases e:l[i]? with
   | none=>simp
   | some x=>have:=(hl.2 x (List.mem_of_getElem? e)).1; simp; omega
  ·cases hci.phase with
   | rest _ _ _ e _=>rw [e] at hb; cases hb
   | wait _ _ _ _ e _=>rw [e] at hb; cases hb
   | work _ _ _ _ e _ _=>rw [e] at hb; cases hb
   | lost _ _ _ e _ _=>rw [e] at hb; cases hb
   | hear _ _ _ _ e =>
    rw [e] at hb
    rw [List.mem_singleton.1 hb]
    exact Nat.le_trans (Nat.le_of_eq rfl) (by decide:(8:Nat)<=140737488355328)

structure Gd (l:List (List Cl)) (m:Mc) (k:Nat):Prop where
 right:zbD l
 inv:∃ ks bz,MInv l m ks bz
 size:SizeM m k
theorem zkZ {l:List (List Cl)} (hl:zbD l) (steps:List (Int×Int)):Gd l (zd3 (zba l) (steps.take 400)) 400 :=
 ⟨hl,znG hl _,(zkA (zjM l) (steps.take 400)).mono (by rw [List.length_take]; omega)⟩
section
variable {l:List (List Cl)} {m:Mc} {k:Nat}
theorem Gd.small (h:Gd l m k) (hk:k<=1000):zhR m:=by
 obtain ⟨h1,⟨ks,bz,h2⟩,h3⟩:=h
 exact zoG h1 h2 h3 hk
theorem Gd.falls (h:Gd l m k):0<=m.falls/\m.falls<=6:=by
 obtain ⟨_,⟨ks,bz,h2⟩,_⟩:=h
 exact h2.falls
theorem Gd.cells (h:Gd l m k):m.store.cells.length * 8<=140737488355328:=by
 obtain ⟨_,⟨ks,bz,h2⟩,_⟩:=h
 have:=h2.cells
 omega
theorem Gd.down (h:Gd l m k) (hu:m.up=false):1<=m.pause/\m.pause<=1000000:=by
 obtain ⟨_,⟨ks,bz,h2⟩,_⟩:=h
 have:=h2.down hu
 omega
theorem Gd.pause (h:Gd l m k):0<=m.pause/\m.pause<=1000000:=by
 obtain ⟨_,⟨ks,bz,h2⟩,_⟩:=h
 cases hu:m.up with
 | true=>have:=h2.upp hu; omega
 | false=>have:=h2.down hu; omega
theorem Gd.gen (h:Gd l m k):0<=m.server.gen/\m.server.gen<=1000000:=by
 obtain ⟨_,⟨ks,bz,h2⟩,_⟩:=h
 obtain ⟨g1,g2,g3⟩:=h2.gens
 have hf:=h2.falls
 cases hu:m.up with
 | true=>have:=g2 hu; omega
 | false=>have:=g3 hu; omega
end

def zrj (m:Mc) (r:Value) (w:World):Prop:=∃ c u a p box plan cl,r=.agg (zaW m c u a p box plan cl).toArray/\RdM (fun _=>True) w m c u a p box plan cl
theorem zrj.ext {m:Mc} {r:Value} {w w':World} (h:zrj m r w) (he:Ext w w'):zrj m r w':=by
 obtain ⟨c,u,a,p,box,plan,cl,e,h⟩:=h
 exact ⟨c,u,a,p,box,plan,cl,e,h.ext he⟩
def zrm (s:St) (r:Value) (w:World):Prop:=∃ c u a p,r=.agg #[c,u,a,p]/\zb8 w [c,u,a,p] s
theorem zrm.ext {s:St} {r:Value} {w w':World} (h:zrm s r w) (he:Ext w w'):zrm s r w':=by
 obtain ⟨c,u,a,p,e,h⟩:=h
 exact ⟨c,u,a,p,e,zfw _ _ _ _ he h⟩
theorem zdi {P:Program} {ops:Array Oper} {rest:List Oper} {o:Oper} {a:Act} {w:World} {Q:Exit->Act->World->Prop} (hw:Region.wanted o (yielded ops a.tmps)=true) (ty:TypeId) (x:Operand) (ho:o.op=.load ty x) (b off:Nat) (hx:a.eval x=.pointer (some ⟨b,off,none⟩)) {cs:Array Value} {t:TypeId} (hg:Hid (w.heap[b]?=some (.cells cs t (0,0))))
  (vs:List Value) (hsub:(cs.toList.drop off).take vs.length=vs) {fs:Array Field} (hu:P.underlying ty=some (.struct fs)) (hi:(P.info? ty).map (·.size)=some vs.length)
  (h:∀ v,Hid (v=.agg vs.toArray)->wpList P ops Q rest (a.put o.dst v) w):wpList P ops Q (o::rest) a w:=by
 refine wpList_step fun K hK=>?_
 rw [if_pos hw]
 unfold Oper.wp
 rw [zbQ ty x ho b off hx hg.o vs hsub hu hi,Oper.upon_value]
 exact hK _ _ (h _ rfl)

theorem zf6 {w:World} {B C:Nat->Prop} {b:Nat} {x:Obj} (h:Hid (∀ k,C k↔(B k∨w.heap.size<=k))) (n:Hid (¬ B b)) (hb:Hid (w.heap[b]?=some x)):Hid (¬ C b):=fun q=>by
 rcases (h.o _).1 q with q | q
 ·exact n.o q
 ·have:=(Array.getElem?_eq_some_iff.1 hb.o).1
  omega

open Go.RowKit Go.Mk

theorem zmz (m:Mc) (c u a p box plan cl:Value) (kind:Int) (n:Int) (w:World) (A:Nat->Prop) (h:RdM A w m c u a p box plan cl) (h1:kind≠1) (h2:kind≠2) (h3:kind≠3) (h4:kind≠4) :
  zaQ Tryz.prog 11 #[.agg (zaW m c u a p box plan cl).toArray,.agg #[I kind,I n]] w A (fun r w'=>zgP zd1 (doM m kind n).1 (doM m kind n).2 r w'):=by
 unfold zaQ;obtain ⟨ca,cc,ua,uc,aa,ac,pa,pc,xa,xc,la,lc,ka,kc,rfl,rfl,rfl,rfl,rfl,rfl,rfl⟩:=h.slices;obtain ⟨⟨sc,su,sa,sp⟩,⟨gen,bl,busy,⟨nc,nt,⟨nk,na,no,nn⟩⟩,pl,⟨se,sn⟩⟩,up,pause,falls,cls⟩:=m;simp only [zaW] at *;have EW:=zhd (Ext.refl w);obtain ⟨B,hB⟩:=zdh A w.heap.size 3;have HK:=zhd hB;clear hB;have H:=zhd (h.widen HK.o.1);clear h
 have hX:doM ⟨⟨sc,su,sa,sp⟩,⟨gen,bl,busy,⟨nc,nt,⟨nk,na,no,nn⟩⟩,pl,⟨se,sn⟩⟩,up,pause,falls,cls⟩ kind n=(⟨⟨sc,su,sa,sp⟩,⟨gen,bl,busy,⟨nc,nt,⟨nk,na,no,nn⟩⟩,pl,⟨se,sn⟩⟩,up,pause,falls,cls⟩,1):=by
  unfold doM;rw [if_neg h1,if_neg h2,if_neg h3,if_neg h4]
 rw [hX];have e1:(kind == 1)=false:=by simpa using h1
 have e2:(kind == 2)=false:=by simpa using h2
 have e3:(kind == 3)=false:=by simpa using h3
 have e4:(kind == 4)=false:=by simpa using h4
 clear hX h1 h2 h3 h4;go_enter Tryz.func11,Tryz.ntmps11
 go_wp2_with (with_reducible refine zT ?_)
 refine zaj rfl 44 (.tmp 0) rfl #[.slice ca sc.length cc,.slice ua su.length uc,.slice aa sa.length ac,.slice pa sp.length pc,I gen,.slice xa bl.length xc,.bool busy,I nc,I nt,I nk,I na,I no,I nn,.slice la pl.length lc,I se,I sn,.bool up,I pause,I falls,.slice ka cls.length kc] rfl (fun b0 w1_ M1=>?_);have zab:=zmb M1;go_wp2_with (with_reducible refine zT ?_)
 refine zaj rfl 25 (.tmp 1) rfl #[I kind,I n] rfl (fun b1 w2_ M2=>?_);have zad:=zmb M2;go_wp2_with (with_reducible refine zT ?_)
 refine zae rfl 44 zM (by kernel_rfl) (fun b2 w3_ M3=>?_);replace zab:=zmo M2 zab;have zal:=zmb M3;have zaY:=zA0 M1;have zaZ:=zA1 zaY M1 M2;have zbX:=zA1 zaZ M2 M3;have zaT:=znb HK zbX (by decide);have zbu:=zob zbX;replace zad:=zmo M3 zad;have k0:=zaa (i:=0) zad.o rfl;go_wp2_with (with_reducible refine zT ?_)
 clear k0;replace zab:=zmo M3 zab;refine zah rfl 44 (.tmp 2) rfl b0 rfl zab za3 zaO (fun v132 H_v132=>?_);go_wp2_with (with_reducible refine zT ?_)
 refine zac rfl 44 (.tmp 4) (.tmp 132) rfl b2 rfl _ (zcv H_v132) zal rfl zaO rfl (fun w4_ M4=>?_);replace zal:=zwb M4;go_wp2
 have z0:=zaq (P:=Tryz.prog) 44 zal.o za3 (by kernel_rfl);refine bodyPost_ret (by simp [results,Tryz.results11,asAddr,z0]; rfl) rfl ?_;replace H:=zHw M4 (zhd ((zhd ((zhd (H.o.ext M1.o.ext)).o.ext M2.o.ext)).o.ext M3.o.ext)) zaT;replace EW:=zwe M4 (zet (zet (zet EW M1) M2) M3) zbu;exact ⟨_,rfl,EW.o,Rd.widen (A:=B) (zbL (RdM.mc (m:=⟨⟨sc,su,sa,sp⟩,⟨gen,bl,busy,⟨nc,nt,⟨nk,na,no,nn⟩⟩,pl,⟨se,sn⟩⟩,up,pause,falls,cls⟩) H.o)) (fun k _ h=>HK.o.2.2.2 k h)⟩

theorem zmP (m:Mc) (c u a p box plan cl:Value) (n:Int) (w:World) (A:Nat->Prop) (h:RdM A w m c u a p box plan cl) (hf:0<=m.falls) :
  zaQ Tryz.prog 11 #[.agg (zaW m c u a p box plan cl).toArray,.agg #[I 3,I n]] w A (fun r w'=>zgP zd1 (doM m 3 n).1 (doM m 3 n).2 r w'):=by
 unfold zaQ;obtain ⟨ca,cc,ua,uc,aa,ac,pa,pc,xa,xc,la,lc,ka,kc,rfl,rfl,rfl,rfl,rfl,rfl,rfl⟩:=h.slices;obtain ⟨⟨sc,su,sa,sp⟩,⟨gen,bl,busy,⟨nc,nt,⟨nk,na,no,nn⟩⟩,pl,⟨se,sn⟩⟩,up,pause,falls,cls⟩:=m;simp only [zaW] at *;have EW:=zhd (Ext.refl w);obtain ⟨B,hB⟩:=zdh A w.heap.size 3;have HK:=zhd hB;clear hB;have H:=zhd (h.widen HK.o.1);clear h;obtain ⟨FX,FE,hFM⟩:∃ x y,zdG ⟨⟨sc,su,sa,sp⟩,⟨gen,bl,busy,⟨nc,nt,⟨nk,na,no,nn⟩⟩,pl,⟨se,sn⟩⟩,up,pause,falls,cls⟩=(x,y):=⟨_,_,rfl⟩;have hX:doM ⟨⟨sc,su,sa,sp⟩,⟨gen,bl,busy,⟨nc,nt,⟨nk,na,no,nn⟩⟩,pl,⟨se,sn⟩⟩,up,pause,falls,cls⟩ 3 n=zdG ⟨⟨sc,su,sa,sp⟩,⟨gen,bl,busy,⟨nc,nt,⟨nk,na,no,nn⟩⟩,pl,⟨se,sn⟩⟩,up,pause,falls,cls⟩:=rfl;rw [hX,hFM];have HFM:=zhd hFM;clear hX hFM;go_enter Tryz.func11,Tryz.ntmps11
 go_wp2_with (with_reducible refine zT ?_)
 refine zaj rfl 44 (.tmp 0) rfl #[.slice ca sc.length cc,.slice ua su.length uc,.slice aa sa.length ac,.slice pa sp.length pc,I gen,.slice xa bl.length xc,.bool busy,I nc,I nt,I nk,I na,I no,I nn,.slice la pl.length lc,I se,I sn,.bool up,I pause,I falls,.slice ka cls.length kc] rfl (fun b0 w1_ M1=>?_);have zab:=zmb M1;go_wp2_with (with_reducible refine zT ?_)
 refine zaj rfl 25 (.tmp 1) rfl #[I 3,I n] rfl (fun b1 w2_ M2=>?_);have zad:=zmb M2;go_wp2_with (with_reducible refine zT ?_)
 refine zae rfl 44 zM (by kernel_rfl) (fun b2 w3_ M3=>?_);replace zab:=zmo M2 zab;have zal:=zmb M3;have zaY:=zA0 M1;have zaZ:=zA1 zaY M1 M2;have zbX:=zA1 zaZ M2 M3;have zaT:=znb HK zbX (by decide);have zbu:=zob zbX;replace zad:=zmo M3 zad;have k0:=zaa (i:=0) zad.o rfl;go_wp2_with (with_reducible refine zT ?_)
 clear k0;replace zab:=zmo M3 zab;refine zah rfl 44 (.tmp 2) rfl b0 rfl zab za3 zaO (fun v124 H_v124=>?_);go_wp2_with fail
 rw [show _=Value.agg #[.slice ca sc.length cc,.slice ua su.length uc,.slice aa sa.length ac,.slice pa sp.length pc,I gen,.slice xa bl.length xc,.bool busy,I nc,I nt,I nk,I na,I no,I nn,.slice la pl.length lc,I se,I sn,.bool up,I pause,I falls,.slice ka cls.length kc] from H_v124.o];replace H:=zhd ((zhd ((zhd (H.o.ext M1.o.ext)).o.ext M2.o.ext)).o.ext M3.o.ext);refine (zjZ ⟨⟨sc,su,sa,sp⟩,⟨gen,bl,busy,⟨nc,nt,⟨nk,na,no,nn⟩⟩,pl,⟨se,sn⟩⟩,up,pause,falls,cls⟩ _ _ _ _ _ _ _ w3_ B H.o hf).to fun r w9 e9 hr=>?_;rw [HFM.o] at hr;obtain ⟨cs,rfl,hcs⟩:=zeh hr;obtain ⟨c',u',a',p',box',plan',cl',rfl,hm⟩:=zcP hcs;obtain ⟨ca',cc',ua',uc',aa',ac',pa',pc',xa',xc',la',lc',ka',kc',rfl,rfl,rfl,rfl,rfl,rfl,rfl⟩:=hm.slices;have hsz:w.heap.size+3<=w3_.heap.size:=by have q:=(zlt zal); have q2:=zbX.o; omega
 have HM:=zhd (hm.widen (B:=B) (fun k _ h=>by
  rcases h with h | h
  ·exact h
  ·exact HK.o.2.1 k (by omega)))
 clear hr hcs hm hsz;go_wp2_with (with_reducible refine zT ?_)
 replace zal:=zbx zal e9;refine zac rfl 44 (.tmp 4) (.tmp 126) rfl b2 rfl [.slice ca' (FX).store.cells.length cc',.slice ua' (FX).store.undo.length uc',.slice aa' (FX).store.answers.length ac',.slice pa' (FX).store.past.length pc',I (FX).server.gen,.slice xa' (FX).server.box.length xc',.bool (FX).server.busy,I (FX).server.now.client,I (FX).server.now.token,I (FX).server.now.call.kind,I (FX).server.now.call.name,I (FX).server.now.call.other,I (FX).server.now.call.n,.slice la' (FX).server.plan.length lc',I (FX).server.says.err,I (FX).server.says.n,.bool (FX).up,I (FX).pause,I (FX).falls,.slice ka' (FX).clients.length kc'] (rfl) zal rfl zaO rfl (fun w4_ M4=>?_);replace zal:=zwb M4;go_wp2
 have z0:=zaq (P:=Tryz.prog) 44 zal.o za3 (by kernel_rfl);refine bodyPost_ret (by simp [results,Tryz.results11,asAddr,z0]; rfl) rfl ?_;replace EW:=zwe M4 (zhd ((zet (zet (zet EW M1) M2) M3).o.trans e9)) zbu;replace HM:=zHw M4 HM zaT;exact ⟨_,rfl,EW.o,Rd.widen (A:=B) (zbL (RdM.mc (m:=FX) HM.o)) (fun k _ h=>HK.o.2.2.2 k h)⟩

theorem zm1 (m:Mc) (c u a p box plan cl:Value) (n:Int) (w:World) (A:Nat->Prop) (h:RdM A w m c u a p box plan cl) (hr:m.store.cells.length * 8<=140737488355328) (hg:0<=m.server.gen/\m.server.gen<=1000000) (hpz:0<=m.pause/\m.pause<=1000000) :
  zaQ Tryz.prog 11 #[.agg (zaW m c u a p box plan cl).toArray,.agg #[I 4,I n]] w A (fun r w'=>zgP zd1 (doM m 4 n).1 (doM m 4 n).2 r w'):=by
 unfold zaQ;obtain ⟨ca,cc,ua,uc,aa,ac,pa,pc,xa,xc,la,lc,ka,kc,rfl,rfl,rfl,rfl,rfl,rfl,rfl⟩:=h.slices;obtain ⟨⟨sc,su,sa,sp⟩,⟨gen,bl,busy,⟨nc,nt,⟨nk,na,no,nn⟩⟩,pl,⟨se,sn⟩⟩,up,pause,falls,cls⟩:=m;simp only [zaW] at *;have EW:=zhd (Ext.refl w);obtain ⟨B,hB⟩:=zdh A w.heap.size 3;have HK:=zhd hB;clear hB;have H:=zhd (h.widen HK.o.1);clear h;obtain ⟨FX,hFM⟩:∃ x,zdS ⟨⟨sc,su,sa,sp⟩,⟨gen,bl,busy,⟨nc,nt,⟨nk,na,no,nn⟩⟩,pl,⟨se,sn⟩⟩,up,pause,falls,cls⟩=x:=⟨_,rfl⟩;have hX:doM ⟨⟨sc,su,sa,sp⟩,⟨gen,bl,busy,⟨nc,nt,⟨nk,na,no,nn⟩⟩,pl,⟨se,sn⟩⟩,up,pause,falls,cls⟩ 4 n=(zdS ⟨⟨sc,su,sa,sp⟩,⟨gen,bl,busy,⟨nc,nt,⟨nk,na,no,nn⟩⟩,pl,⟨se,sn⟩⟩,up,pause,falls,cls⟩,0):=rfl;rw [hX,hFM];have HFM:=zhd hFM;clear hX hFM;go_enter Tryz.func11,Tryz.ntmps11
 go_wp2_with (with_reducible refine zT ?_)
 refine zaj rfl 44 (.tmp 0) rfl #[.slice ca sc.length cc,.slice ua su.length uc,.slice aa sa.length ac,.slice pa sp.length pc,I gen,.slice xa bl.length xc,.bool busy,I nc,I nt,I nk,I na,I no,I nn,.slice la pl.length lc,I se,I sn,.bool up,I pause,I falls,.slice ka cls.length kc] rfl (fun b0 w1_ M1=>?_);have zab:=zmb M1;go_wp2_with (with_reducible refine zT ?_)
 refine zaj rfl 25 (.tmp 1) rfl #[I 4,I n] rfl (fun b1 w2_ M2=>?_);have zad:=zmb M2;go_wp2_with (with_reducible refine zT ?_)
 refine zae rfl 44 zM (by kernel_rfl) (fun b2 w3_ M3=>?_);replace zab:=zmo M2 zab;have zal:=zmb M3;have zaY:=zA0 M1;have zaZ:=zA1 zaY M1 M2;have zbX:=zA1 zaZ M2 M3;have zaT:=znb HK zbX (by decide);have zbu:=zob zbX;replace zad:=zmo M3 zad;have k0:=zaa (i:=0) zad.o rfl;go_wp2_with (with_reducible refine zT ?_)
 clear k0;replace zab:=zmo M3 zab;refine zah rfl 44 (.tmp 2) rfl b0 rfl zab za3 zaO (fun v130 H_v130=>?_);go_wp2_with fail
 rw [show _=Value.agg #[.slice ca sc.length cc,.slice ua su.length uc,.slice aa sa.length ac,.slice pa sp.length pc,I gen,.slice xa bl.length xc,.bool busy,I nc,I nt,I nk,I na,I no,I nn,.slice la pl.length lc,I se,I sn,.bool up,I pause,I falls,.slice ka cls.length kc] from H_v130.o];replace H:=zhd ((zhd ((zhd (H.o.ext M1.o.ext)).o.ext M2.o.ext)).o.ext M3.o.ext);refine (zj7 ⟨⟨sc,su,sa,sp⟩,⟨gen,bl,busy,⟨nc,nt,⟨nk,na,no,nn⟩⟩,pl,⟨se,sn⟩⟩,up,pause,falls,cls⟩ _ _ _ _ _ _ _ w3_ B H.o hr hg hpz).to fun r w9 e9 hr=>?_;rw [HFM.o] at hr;obtain ⟨cs,rfl,hcs⟩:=zbZ hr;obtain ⟨c',u',a',p',box',plan',cl',rfl,hm⟩:=zcP hcs;obtain ⟨ca',cc',ua',uc',aa',ac',pa',pc',xa',xc',la',lc',ka',kc',rfl,rfl,rfl,rfl,rfl,rfl,rfl⟩:=hm.slices;have hsz:w.heap.size+3<=w3_.heap.size:=by have q:=(zlt zal); have q2:=zbX.o; omega
 have HM:=zhd (hm.widen (B:=B) (fun k _ h=>by
  rcases h with h | h
  ·exact h
  ·exact HK.o.2.1 k (by omega)))
 clear hr hcs hm hsz;go_wp2_with (with_reducible refine zT ?_)
 replace zal:=zbx zal e9;refine zac rfl 44 (.tmp 4) (.tmp 131) rfl b2 rfl [.slice ca' (FX).store.cells.length cc',.slice ua' (FX).store.undo.length uc',.slice aa' (FX).store.answers.length ac',.slice pa' (FX).store.past.length pc',I (FX).server.gen,.slice xa' (FX).server.box.length xc',.bool (FX).server.busy,I (FX).server.now.client,I (FX).server.now.token,I (FX).server.now.call.kind,I (FX).server.now.call.name,I (FX).server.now.call.other,I (FX).server.now.call.n,.slice la' (FX).server.plan.length lc',I (FX).server.says.err,I (FX).server.says.n,.bool (FX).up,I (FX).pause,I (FX).falls,.slice ka' (FX).clients.length kc'] (rfl) zal rfl zaO rfl (fun w4_ M4=>?_);replace zal:=zwb M4;go_wp2
 have z0:=zaq (P:=Tryz.prog) 44 zal.o za3 (by kernel_rfl);refine bodyPost_ret (by simp [results,Tryz.results11,asAddr,z0]; rfl) rfl ?_;replace EW:=zwe M4 (zhd ((zet (zet (zet EW M1) M2) M3).o.trans e9)) zbu;replace HM:=zHw M4 HM zaT;exact ⟨_,rfl,EW.o,Rd.widen (A:=B) (zbL (RdM.mc (m:=FX) HM.o)) (fun k _ h=>HK.o.2.2.2 k h)⟩

end Go.Proofs.YtdmipnnfoolelaeGreat
